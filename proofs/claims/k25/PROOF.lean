import PyProof.Rows.All
import Wide.All
import Wide.FinOn
import Lean
import PyProof.EqAt
import PyProof.EqKinds
import PyProof.TupleCall
import KE.KDictList
import KE.KDictOf
import KE.KIntText
import KE.KItemsList
import KE.KSortKey
import KE.KSortTup
import KE.KTryMore
import PyProof.AttrMissHeap
import PyProof.AutoSeq1
import PyProof.ExcAttrAll.ValueError
import PyProof.FitsBits
import PyProof.MeetsStr2
import PyProof.MinMaxWalk
import PyProof.P3Eq
import PyProof.P3In
import PyProof.ReprLen
import PyProof.Rows.DictRows
import PyProof.Rows.Own
import PyProof.Rows.RuleB_bool
import PyProof.Rows.TupIter
import PyProof.SeqI3
import PyProof.StrBlockG
import PyProof.StrOps2
import PyProof.StrWalks
import PyProof.SumWalkG
import PyProof.TupleOfSeq
import PyProof.WalkInts
import KE.KDictList
import KE.KSortAsk
import KE.KSortKey
import KE.KTryMore
import PySem.Challenge.RW_allsome_k25_rows_made_by_steps
set_option Elab.async false
set_option compiler.extract_closed false
set_option bootstrap.genMatcherCode false
set_option linter.all false
set_option maxRecDepth 100000
theorem Zo {α β : Type} {x : Option α} {f : α → Option β} {b : β} (h : x.bind f = some b) : ∃ a, x = some a ∧ f a = some b := Option.bind_eq_some_iff.1 h
theorem Zm {α β : Type} {x : Option α} {f : α → β} {b : β} (h : x.map f = some b) : ∃ a, x = some a ∧ f a = b := Option.map_eq_some_iff.1 h
theorem Zb {α β : Type} (a : α) (f : α → Option β) : (some a).bind f = f a := rfl
namespace PySem.W
open PySem
/-! the top run on a tree -/
def treeOf : List Obj → Nat → BT → Option BT
  | [], _, t => some t
  | o :: r, i, t => match ((t.ins i o).get i).isSome with
    | true => treeOf r (i + 1) (t.ins i o)
    | false => none
theorem treeOf_abs {life} : ∀ (l : List Obj) (i : Nat) (t T : BT), treeOf l i t = some T → absHeap T (i + l.length) life = ⟨(absHeap t i life).objs ++ l.toArray, life⟩
  | [], i, t, T, h => by cases h; simp [absHeap]
  | o :: r, i, t, T, h => by
    unfold treeOf at h
    cases e : ((t.ins i o).get i).isSome with
    | false => rw [e] at h; cases h
    | true =>
      rw [e] at h
      have a := treeOf_abs (life := life) r (i + 1) (t.ins i o) T h
      rw [absHeap_ins e] at a
      rw [List.length_cons, show i + (r.length + 1) = i + 1 + r.length by omega, a]
      simp [Heap.push]
def topRunT (tb : String → Option Builtin) (p : Program) (w : World) (n₀ : Nat) (ann : Option Value) : Nat → SharedT → Thread → Option SharedT
  | 0, _, _ => none
  | n + 1, s, t => match through t with
    | true => some s
    | false => match stepOk n₀ ann t with
      | false => none
      | true => match stepT (denote tb) p w s t with
        | some (s', t') => topRunT tb p w n₀ ann n s' t'
        | none => none
theorem topRun_of {tb : String → Option Builtin} {p : Program} {w : World} {n₀ : Nat} {ann : Option Value} : ∀ {n : Nat} {s s' : SharedT} {t : Thread}, topRunT tb p w n₀ ann n s t = some s' → topRun tb p w n₀ ann n s.abs t = some s'.abs
  | 0, _, _, _, h => by cases h
  | n + 1, s, s', t, h => by
    unfold topRunT at h
    unfold topRun
    cases he : through t with
    | true => rw [he] at h; cases h; rfl
    | false =>
      rw [he] at h
      cases hk : stepOk n₀ ann t with
      | false => rw [hk] at h; cases h
      | true =>
        rw [hk] at h
        cases hs : stepT (denote tb) p w s t with
        | none => rw [hs] at h; cases h
        | some r => obtain ⟨s₂, t₂⟩ := r; rw [hs] at h; rw [stepT_spec hs]; exact topRun_of h
def topT (tb : String → Option Builtin) (p : Program) (w : World) (N : Nat) (s₀ : Shared) : Option Shared :=
  match s₀.heap.isNs mainGlobals && s₀.gens.size == 0 with
  | true => (treeOf s₀.heap.objs.toList 0 .nil).bind fun T => (topRunT tb p w s₀.heap.objs.size (s₀.heap.nsMap mainGlobals "__annotations__") N ⟨T, s₀.heap.objs.size, s₀.heap.life, s₀.gens, s₀.drawn, s₀.toks, s₀.os⟩ (topStub p)).bind fun s₁ =>
    match staticsOk (importedModules p.main.body) s₀.heap s₁.abs.heap && namesBound p s₁.abs.heap && gensDone s₁.abs && laidKept s₀.heap s₁.abs.heap with
    | true => some s₁.abs
    | false => none
  | false => none
theorem topT_of {tb : String → Option Builtin} {p : Program} {w : World} {N : Nat} {s₀ r : Shared} (h : topT tb p w N s₀ = some r) : topFrom tb p w N s₀ = some r := by
  unfold topT at h
  unfold topFrom
  cases e : (s₀.heap.isNs mainGlobals && s₀.gens.size == 0) with
  | false => rw [e] at h; cases h
  | true =>
    rw [e] at h
    obtain ⟨T, h1, h⟩ := Option.bind_eq_some_iff.mp h
    obtain ⟨s₁, h2, h⟩ := Option.bind_eq_some_iff.mp h
    have a := treeOf_abs (life := s₀.heap.life) _ _ _ _ h1
    have b := topRun_of h2
    have c : (SharedT.mk T s₀.heap.objs.size s₀.heap.life s₀.gens s₀.drawn s₀.toks s₀.os).abs = s₀ := by
      unfold SharedT.abs
      have z : absHeap T s₀.heap.objs.size s₀.heap.life = s₀.heap := by
        have a' := a
        rw [Nat.zero_add] at a'
        rw [show s₀.heap.objs.size = s₀.heap.objs.toList.length by simp, a']
        obtain ⟨⟨objs, life⟩, g, d, t, o⟩ := s₀
        simp [absHeap, BT.list]
      show Shared.mk (absHeap T s₀.heap.objs.size s₀.heap.life) s₀.gens s₀.drawn s₀.toks s₀.os = s₀
      rw [z]
    rw [c] at b
    rw [b]
    exact h
end PySem.W
section
open PySem PySem.W PyProof.Rows
noncomputable def PySem.Challenge.vwOf (p : Program) : Program := { p with main := { p.main with body := [1, 3, 4, 5, 6, 7, 8, 9, 10, 11, 13, 14, 15, 16, 17, 18, 19, 20, 21, 22, 23, 25, 26, 27, 29, 30, 31, 32, 33, 34, 35, 36, 37, 38, 39, 40, 41, 42, 43, 44, 45, 46, 47, 48, 49].filterMap fun i => p.main.body[i]? } }
local macro_rules | `(tactic| o_head $_) => `(tactic| exact False.elim (by assumption))
set_option maxRecDepth 100000 in
set_option maxHeartbeats 0 in
theorem PySem.Challenge.mk0 : False -> PySem.Challenge.rw_allsome_k25_rows_made_by_steps.Holds := by
 intro f; w_on; o_law; k_head
noncomputable def PySem.Challenge.hk0 : Hook := kHook PySem.Challenge.mk0.heap_39 [2, 3, 15, 17, 18, 20, 21, 22, 29, 30, 31, 32, 35, 42, 44, 45, 47, 48, 49, 50, 51, 54, 61, 63, 64, 66, 67, 68, 69, 70, 73, 80, 81, 82, 85, 92, 93, 94, 97, 104, 105, 106, 109, 116, 117, 118, 121, 128, 129, 130, 133, 140, 141, 142, 145, 147, 148, 150, 151, 152, 154, 155, 157, 158, 159, 161, 162, 164, 165, 166, 169, 170, 171, 173, 174, 176, 177, 178, 180, 181, 183, 184, 185, 187, 188, 190, 191, 192, 194, 195, 197, 198, 199, 201, 202, 204, 205, 206, 208, 209, 211, 212, 213, 215, 216, 218, 219, 220, 222, 223, 225, 226, 227, 229, 230, 232, 233, 234, 236, 237, 239, 240, 241, 243, 244, 246, 247, 248, 250, 251, 253, 254, 255, 257, 258, 260, 261, 262, 264, 265, 267, 268, 269, 271, 272, 274, 275, 276, 279, 280, 281, 283, 284, 286, 287, 288, 291, 292, 293, 295, 296, 298, 299, 300, 303, 304, 305, 307, 308, 310, 311, 312, 315, 316, 317, 319, 320, 322, 323, 324, 327, 328, 329, 331, 332, 334, 335, 336, 338, 339, 341, 342, 343, 345, 346, 348, 349, 350, 353, 354, 355, 357, 358, 360, 361, 362, 364, 365, 367, 368, 369, 372, 373] (fun _ => by kernel_rfl)
noncomputable def PySem.Challenge.xt0 (s : Shared) : Bool := xlAt (PySem.Challenge.vwOf PySem.Challenge.pw_allsome_k25_rows_made_by_steps) [] s && recOk (RowW.records (OpenRow.toRowW (OpenLaw.row PySem.Challenge.rw_allsome_k25_rows_made_by_steps))) s
set_option maxRecDepth 100000 in
theorem PySem.Challenge.left123456789 (w : World) (os : OsState) : (topT treeTable (OpenLaw.row PySem.Challenge.rw_allsome_k25_rows_made_by_steps).prog w 6358 ⟨boot_heap w.params, Array.mk [], boot_drawn, boot_toks, os⟩).map (fun s => openSeen (PySem.Challenge.vwOf PySem.Challenge.pw_allsome_k25_rows_made_by_steps) [] (importedModules (OpenLaw.row PySem.Challenge.rw_allsome_k25_rows_made_by_steps).prog.main.body) PySem.Challenge.xt0 true s) = some (openGood (PySem.Challenge.vwOf PySem.Challenge.pw_allsome_k25_rows_made_by_steps) []) := by
 unfold PySem.Challenge.xt0
 try rewrite [PySem.W.Fast.te4187177175401517315]
 try rewrite [PySem.W.Fast.te5923862056798008813]
 try rewrite [PySem.W.Fast.te2368527892694137696]
 try rewrite [PySem.W.Fast.te15591818498560038086]
 try rewrite [PySem.W.Fast.te3746865388666114054]
 try rewrite [PySem.W.Fast.te14364793385576792824]
 kernel_rfl
set_option maxRecDepth 100000 in
theorem PySem.Challenge.leftc (w : World) (os : OsState) : (topT treeTable (OpenLaw.row PySem.Challenge.rw_allsome_k25_rows_made_by_steps).prog w 6358 ⟨boot_heap w.params, Array.mk [], boot_drawn, boot_toks, os⟩).map (fun s => PySem.Challenge.hk0.obs s) = some (PySem.Challenge.hk0.val w) := by
 try rewrite [PySem.W.Fast.te4187177175401517315]
 try rewrite [PySem.W.Fast.te5923862056798008813]
 try rewrite [PySem.W.Fast.te2368527892694137696]
 try rewrite [PySem.W.Fast.te15591818498560038086]
 try rewrite [PySem.W.Fast.te3746865388666114054]
 try rewrite [PySem.W.Fast.te14364793385576792824]
 kernel_rfl
theorem PySem.Challenge.left0 : LeftO (OpenLaw.row PySem.Challenge.rw_allsome_k25_rows_made_by_steps).prog (PySem.Challenge.vwOf PySem.Challenge.pw_allsome_k25_rows_made_by_steps) [] PySem.Challenge.xt0 PySem.Challenge.hk0.obs PySem.Challenge.hk0.val 6358 := fun w => by
 obtain ⟨⟨h, g, d, t, os⟩, hs, hv⟩ := Option.map_eq_some_iff.mp (boot_open (p := (OpenLaw.row PySem.Challenge.rw_allsome_k25_rows_made_by_steps).prog) (N := 6358) (by kernel_rfl) (by kernel_rfl) (fun s => by kernel_rfl) w)
 obtain ⟨e1, hv⟩ := Prod.mk.inj (show (h, g, d, t) = _ from hv)
 obtain ⟨e2, hv⟩ := Prod.mk.inj hv
 obtain ⟨e3, e4⟩ := Prod.mk.inj hv
 subst e1; subst e2; subst e3; subst e4
 obtain ⟨r, h1, hc⟩ := Option.map_eq_some_iff.mp (PySem.Challenge.leftc w os)
 have h123456789 := PySem.Challenge.left123456789 w os
 rw [h1, Option.map_some] at h123456789
 replace h123456789 := Option.some.inj h123456789
 unfold openEnds
 rw [hs, Option.bind_some, topT_of h1]
 exact congrArg some (Prod.ext h123456789 hc)
end
namespace L2
open PySem PySem.Spec PyProof.Rows
noncomputable abbrev Key := Sum Int Str
noncomputable def Zx7 : Key -> Value -> Bool
 | .inl k, v => Value.isInt k v
 | .inr x, v => Value.isStrOf x v
noncomputable def keyH (w : World) : Key -> Int
 | .inl k => hashInt k
 | .inr x => hashStr w x
theorem Za6 : ∀ {k : Key} {v : Value}, Zx7 k v = true -> (∃ i t, k = Sum.inl i ∧ v = Value.int i t) ∨ (∃ x t, k = Sum.inr x ∧ v = Value.str x t)
 | .inl i, v, h => by
  obtain ⟨t, e⟩ := Value.isInt_shape (k := i) (v := v) h
  exact .inl ⟨i, t, rfl, e⟩
 | .inr x, v, h => by
  obtain ⟨t, e⟩ := Value.isStrOf_shape (x := x) (v := v) h
  exact .inr ⟨x, t, rfl, e⟩
theorem Zyt (a b : Int) : decide ((Sum.inl a : Key) = Sum.inl b) = (a == b) := by
 by_cases e : a = b
 ·subst e; simp
 ·have h : ¬ (Sum.inl a : Key) = Sum.inl b := fun q => e (Sum.inl.inj q)
  rw [decide_eq_false h]
  exact (beq_eq_false_iff_ne.mpr e).symm
theorem Zz7 (a b : Str) : decide ((Sum.inr a : Key) = Sum.inr b) = decide (a = b) := by
 by_cases e : a = b
 ·subst e; simp
 ·have h : ¬ (Sum.inr a : Key) = Sum.inr b := fun q => e (Sum.inr.inj q)
  rw [decide_eq_false h, decide_eq_false e]
theorem Yam (a : Int) (b : Str) : decide ((Sum.inl a : Key) = Sum.inr b) = false := decide_eq_false (fun q => nomatch q)
theorem Yad (a : Str) (b : Int) : decide ((Sum.inr a : Key) = Sum.inl b) = false := decide_eq_false (fun q => nomatch q)
noncomputable def Zmb (prog : Program) (w : World) : PySem.KeyKind prog w Key where
 is := Zx7
 hash := keyH w
 inj := fun v a b ha hb => by
  rcases Za6 ha with ⟨i, t, rfl, rfl⟩ | ⟨x, t, rfl, rfl⟩
  ·rcases Za6 hb with ⟨j, u, rfl, e⟩ | ⟨y, u, rfl, e⟩
   ·injection e with e1 _; rw [e1]
   ·exact nomatch e
  ·rcases Za6 hb with ⟨j, u, rfl, e⟩ | ⟨y, u, rfl, e⟩
   ·exact nomatch e
   ·injection e with e1 _; rw [e1]
 byValue := fun k v h => by
  rcases Za6 h with ⟨i, t, rfl, rfl⟩ | ⟨x, t, rfl, rfl⟩ <;> rfl
 pyHash := fun hv h => by
  rcases Za6 hv with ⟨i, t, rfl, rfl⟩ | ⟨x, t, rfl, rfl⟩
  ·exact wpAny_pyHash_int h
  ·exact wpAny_pyHash_str h
 eqBool := fun hu hv h => by
  rcases Za6 hu with ⟨i, t, rfl, rfl⟩ | ⟨x, t, rfl, rfl⟩
  ·rcases Za6 hv with ⟨j, u, rfl, rfl⟩ | ⟨y, u, rfl, rfl⟩
   ·rw [Zyt] at h; exact wpAny_eqBool_int h
   ·rw [Yam] at h; exact SeqAt.EqAt.int_str i t y u _ _ _ _ h
  ·rcases Za6 hv with ⟨j, u, rfl, rfl⟩ | ⟨y, u, rfl, rfl⟩
   ·rw [Yad] at h; exact SeqAt.EqAt.str_int x t j u _ _ _ _ h
   ·rw [Zz7] at h; exact wpAny_eqBool_str h
 «strs» := fun k x t v h => by
  rcases Za6 h with ⟨i, u, rfl, e⟩ | ⟨y, u, rfl, e⟩
  ·exact nomatch e
  ·injection e with e1 _
   subst e1
   cases v <;> rfl
inductive V where
 | non | bl (b : Bool) | int (i : Int) | str (x : Str) | byt (b : Array UInt8) | flt (b : UInt64) | ref (a : Addr) | ty (n : String)
noncomputable def Zb2 : V -> Value -> Prop
 | .non, u => u = Value.none
 | .bl b, u => u = Value.bool b
 | .int i, u => ∃ t, u = Value.int i t
 | .str x, u => ∃ t, u = Value.str x t
 | .byt b, u => ∃ t, u = Value.bytes b t
 | .flt b, u => ∃ t, u = Value.float b t
 | .ref a, u => u = Value.ref a
 | .ty n, u => u = Value.type n
noncomputable abbrev Zbt : List V -> List Value -> Prop := Paired Zb2
theorem Zbt.length {xs : List V} {us : List Value} (r : Zbt xs us) : xs.length = us.length := Paired.length r
theorem Zbt.get : ∀ {xs : List V} {us : List Value} {i : Nat} {x : V}, Zbt xs us -> xs[i]? = some x -> ∃ u, us[i]? = some u ∧ Zb2 x u
 | _, _, _, _, .nil, e => by simp at e
 | _, _, 0, _, .cons r _, e => by simp at e; subst e; exact ⟨_, rfl, r⟩
 | _, _, i + 1, x, .cons _ t, e => by
  obtain ⟨u, h1, h2⟩ := Zbt.get (i := i) (x := x) t (by simpa using e)
  exact ⟨u, by simpa using h1, h2⟩
theorem Zbt.append : ∀ {xs ys : List V} {us ws : List Value}, Zbt xs us -> Zbt ys ws -> Zbt (xs ++ ys) (us ++ ws)
 | _, _, _, _, .nil, s => s
 | _, _, _, _, .cons r t, s => .cons r (Zbt.append t s)
theorem Zbt.take : ∀ {xs : List V} {us : List Value} (n : Nat), Zbt xs us -> Zbt (xs.take n) (us.take n)
 | _, _, 0, _ => .nil
 | _, _, _ + 1, .nil => .nil
 | _, _, n + 1, .cons r t => .cons r (Zbt.take n t)
theorem Zbt.drop : ∀ {xs : List V} {us : List Value} (n : Nat), Zbt xs us -> Zbt (xs.drop n) (us.drop n)
 | _, _, 0, r => r
 | _, _, _ + 1, .nil => .nil
 | _, _, n + 1, .cons _ t => Zbt.drop n t
noncomputable def RelO : Option V -> Option Value -> Prop
 | some v, some u => Zb2 v u
 | none, none => True
 | _, _ => False
noncomputable def KV {κ : Type} : List (κ × V) -> List (κ × Value) -> Prop := Paired fun (p : κ × V) (q : κ × Value) => p.1 = q.1 ∧ Zb2 p.2 q.2
noncomputable def kV : Key -> V
 | .inl i => .int i
 | .inr x => .str x
inductive HO where
 | lst (xs : List V)
 | tup (xs : List V)
 | dK (kvs : List (Key × V)) | dT (kvs : List (List Key × V))
 | set (S : Int -> Bool) (n : Nat)
 | ins (C dx : Addr) (fs : List (Str × V))
 | own (x : Addr)
 | xd (fs : List (Str × V))
 | met (f x : Addr)
 | rng (lo hi : Int)
 | frz (o : Obj) (u : HO)
 | tbl (ps : Array Value)
 | ext (φ : Heap -> Prop)
noncomputable abbrev Hp := Addr -> Option HO
noncomputable def upd (H : Hp) (a : Addr) (o : HO) : Hp := fun b => if b = a then some o else H b
theorem upd_same {H : Hp} {a : Addr} {o : HO} : upd H a o a = some o := by unfold upd; rw [if_pos rfl]
theorem Zah {H : Hp} {a b : Addr} {o : HO} (h : b ≠ a) : upd H a o b = H b := by unfold upd; rw [if_neg h]
theorem Zla {H : Hp} {a b : Addr} {o u : HO} (h : H a = some o) (h' : H b = some u) (d : o ≠ u) : a ≠ b := by
 intro e; subst e; rw [h] at h'; exact d (Option.some.inj h')
theorem Zai {H : Hp} {a b : Addr} {o : HO} (h : H a = some o) (h' : H b = none) : a ≠ b := by
 intro e; subst e; rw [h] at h'; cases h'
noncomputable def Zi4 (h : Heap) (a : Addr) (items : Array Value) : Prop := ∃ o, h.get? a = some o ∧ o.cls = .type "tuple" ∧ (∃ n, o.data = .seq items n) ∧ o.dict = none
theorem Zi4.new (h : Heap) (items : Array Value) : Zi4 (h.push { cls := .type "tuple", data := .seq items }) h.objs.size items := ⟨_, Heap.get?_push_size _ rfl, rfl, ⟨_, rfl⟩, rfl⟩
theorem Zi4.tup {h : Heap} {a : Addr} {items : Array Value} (x : Zi4 h a items) : IsTup h a items := let ⟨o, e, c, d, _⟩ := x; ⟨o, e, c, d⟩
section
variable (P : Program) (w : World)
noncomputable def Zcg (H : Hp) (h : Heap) (a : Addr) : HO -> Prop
 | .lst xs => xs.length ≤ sizeLine ∧ ∃ (its : List Value) (n : Nat), Zbt xs its ∧ h.get? a = some { cls := .type "list", data := .seq its.toArray n }
 | .tup xs => xs.length ≤ sizeLine ∧ ∃ its : List Value, Zbt xs its ∧ Zi4 h a its.toArray
 | .dK kvs => kvs.length ≤ sizeLine ∧ (a == sysModules) = false ∧ ∃ vs, KV kvs vs ∧ h.DictOf (Zmb P w) a vs
 | .dT kvs => kvs.length ≤ sizeLine ∧ (a == sysModules) = false ∧ ∃ xs : List (List Key × Addr × Value),
   Paired (fun (p : List Key × V) (q : List Key × Addr × Value) => p.1 = q.1 ∧ H q.2.1 = some (.tup (p.1.map kV)) ∧ Zb2 p.2 q.2.2) kvs xs ∧
   ∃ o es ep, h.get? a = some o ∧ o.ExactDict ∧ o.data = .dict es ep ∧ es.toList = xs.map (entryOfKey (tupleKind (Zmb P w))) ∧ (xs.map (·.1)).Nodup
 | .set S n => h.SetOf (intKind P w) a S n
 | .ins C dx fs => H dx = some (.own a) ∧ fs.length ≤ 1000 ∧ dx ≠ a ∧ h.get? a = some (PySem.W.instObj C dx) ∧
   ∃ mA, h.Ns1 dx mA ∧ (∀ f, RelO (fs.lookup f) (mA f)) ∧ PySem.Within mA (fs.map (·.1))
 | .own _ => ∃ o, h.get? a = some o
 | .xd fs => ∃ mA, h.Ns1 a mA ∧ ∀ f, RelO (fs.lookup f) (mA f)
 | .rng lo hi => ∃ t u v, h.get? a = some { cls := .type "range", data := .fields #[.int lo t, .int hi u, .int 1 v] }
 | .frz o u => h.get? a = some o ∧ Zcg H h a u
 | .tbl ps => h.get? a = some { cls := .none, data := .fields ps }
 | .met f x => h.get? a = some (PySem.W.methodObj (.ref f) (.ref x))
 | .ext φ => φ h ∧ (∃ o, h.get? a = some o) ∧ ∀ h1 h2 : Heap, φ h1 -> (∀ o, h1.get? a = some o -> h2.get? a = some o) -> φ h2
noncomputable def HOk (H : Hp) (h : Heap) : Prop := ∀ a o, H a = some o -> Zcg P w H h a o
end
section
variable {P : Program} {w : World} {H H' : Hp} {h h' : Heap} {a : Addr} {o : HO}
theorem Zcg.lt (x : Zcg P w H h a o) : a < h.objs.size := by
 cases o with
 | lst xs => obtain ⟨_, _, _, _, e⟩ := x; exact Heap.lt_size e
 | tup xs => obtain ⟨_, _, _, p⟩ := x; exact p.tup.lt
 | dK kvs => obtain ⟨_, _, _, _, o, _, _, e, _⟩ := x; exact Heap.lt_size e
 | dT kvs => obtain ⟨_, _, _, _, o, _, _, e, _⟩ := x; exact Heap.lt_size e
 | set S n => obtain ⟨o, _, _, _, e, _⟩ := x; exact Heap.lt_size e
 | ins C dx fs => obtain ⟨_, _, _, e, _⟩ := x; exact Heap.lt_size e
 | own y => obtain ⟨_, e⟩ := x; exact Heap.lt_size e
 | xd fs => obtain ⟨_, ⟨_, _, _, e, _⟩, _⟩ := x; exact Heap.lt_size e
 | rng lo hi => obtain ⟨_, _, _, e⟩ := x; exact Heap.lt_size e
 | frz ob u => obtain ⟨e, _⟩ := x; exact Heap.lt_size e
 | tbl ps => exact Heap.lt_size (show h.get? a = some _ from x)
 | met f y => exact Heap.lt_size (show h.get? a = some _ from x)
 | ext φ => obtain ⟨_, ⟨_, e⟩, _⟩ := x; exact Heap.lt_size e
theorem Paired.mapP {α β : Type} {F G : α -> β -> Prop} : ∀ {l₁ : List α} {l₂ : List β}, Paired F l₁ l₂ -> (∀ a b, F a b -> G a b) -> Paired G l₁ l₂
 | _, _, .nil, _ => .nil
 | _, _, .cons r t, f => .cons (f _ _ r) (Paired.mapP t f)
theorem Zcg.stay (x : Zcg P w H h a o) (k : ∀ b u, (b = a ∨ H b = some (.own a)) -> h.get? b = some u -> h'.get? b = some u)
  (ho : ∀ b, H b = some (.own a) -> H' b = some (.own a)) (ht : ∀ b xs, H b = some (.tup xs) -> H' b = some (.tup xs)) : Zcg P w H' h' a o := by
 induction o with
 | lst xs => obtain ⟨z, its, n, r, e⟩ := x; exact ⟨z, its, n, r, k _ _ (.inl rfl) e⟩
 | tup xs => obtain ⟨z, its, r, ob, e, c⟩ := x; exact ⟨z, its, r, ob, k _ _ (.inl rfl) e, c⟩
 | dK kvs => obtain ⟨z, y, vs, r, ob, es, ep, e, c⟩ := x; exact ⟨z, y, vs, r, ob, es, ep, k _ _ (.inl rfl) e, c⟩
 | dT kvs =>
  obtain ⟨z, y, xs, r, ob, es, ep, e, c⟩ := x
  exact ⟨z, y, xs, Paired.mapP r fun p q z => ⟨z.1, ht _ _ z.2.1, z.2.2⟩, ob, es, ep, k _ _ (.inl rfl) e, c⟩
 | set S n => obtain ⟨ob, es, ep, t, e, c⟩ := x; exact ⟨ob, es, ep, t, k _ _ (.inl rfl) e, c⟩
 | ins C dx fs =>
  obtain ⟨d, z, ne, e, mA, ⟨od, es, ep, e2, c⟩, r⟩ := x
  exact ⟨ho _ d, z, ne, k _ _ (.inl rfl) e, mA, ⟨od, es, ep, k _ _ (.inr d) e2, c⟩, r⟩
 | own y => obtain ⟨ob, e⟩ := x; exact ⟨ob, k _ _ (.inl rfl) e⟩
 | xd fs => obtain ⟨mA, ⟨od, es, ep, e, c⟩, r⟩ := x; exact ⟨mA, ⟨od, es, ep, k _ _ (.inl rfl) e, c⟩, r⟩
 | rng lo hi => obtain ⟨t, u, v, e⟩ := x; exact ⟨t, u, v, k _ _ (.inl rfl) e⟩
 | frz ob u ih => obtain ⟨e, q⟩ := x; exact ⟨k _ _ (.inl rfl) e, ih q⟩
 | tbl ps =>
  have e : h.get? a = some { cls := .none, data := .fields ps } := x
  show h'.get? a = some { cls := .none, data := .fields ps }
  exact k a _ (.inl rfl) e
 | met f y =>
  have e : h.get? a = some (PySem.W.methodObj (.ref f) (.ref y)) := x
  show h'.get? a = some (PySem.W.methodObj (.ref f) (.ref y))
  exact k a _ (.inl rfl) e
 | ext φ => obtain ⟨p, ⟨o, e⟩, st⟩ := x; exact ⟨st _ _ p fun o q => k _ _ (.inl rfl) q, ⟨o, k _ _ (.inl rfl) e⟩, st⟩
theorem HOk.lt (x : HOk P w H h) (e : H a = some o) : a < h.objs.size := (x a o e).lt
theorem HOk.fresh (x : HOk P w H h) (e : h.objs.size ≤ a) : H a = none := by
 cases q : H a with
 | none => rfl
 | some u => exact absurd (Nat.lt_of_lt_of_le (x.lt q) e) (Nat.lt_irrefl _)
theorem HOk.kept (x : HOk P w H h) (k : ∀ b u, h.get? b = some u -> h'.get? b = some u) : HOk P w H h' := fun a o e =>
 (x a o e).stay (fun b u _ q => k b u q) (fun _ q => q) fun _ _ q => q
theorem HOk.laid (x : HOk P w H h) (k : ∀ b u, h.get? b = some u -> h'.get? b = some u) (hp : h.objs.size ≤ a) (new : Zcg P w (upd H a o) h' a o) : HOk P w (upd H a o) h' := fun b u e => by
 have hn := x.fresh hp
 by_cases hb : b = a
 ·subst hb; rw [upd_same] at e; cases e; exact new
 ·rw [Zah hb] at e
  exact (x b u e).stay (fun c v _ q => k c v q) (fun c q => by rw [Zah (Zai q hn)]; exact q) fun c xs q => by rw [Zah (Zai q hn)]; exact q
end
noncomputable def Rd (H : Hp) (a : Addr) (u : HO) : Prop := H a = some u ∨ ∃ o, H a = some (.frz o u)
theorem Rd.ok {P : Program} {w : World} {H : Hp} {h : Heap} {a : Addr} {u : HO} (r : Rd H a u) (x : HOk P w H h) : Zcg P w H h a u := by
 rcases r with r | ⟨o, r⟩
 ·exact x a u r
 ·obtain ⟨_, q⟩ := x a _ r
  exact q
noncomputable def Mut : Option HO -> Prop
 | some (.lst _) => True
 | some (.dK _) => True
 | some (.dT _) => True
 | some (.set _ _) => True
 | some (.ins _ _ _) => True
 | some (.ext _) => True
 | _ => False
section
variable {P : Program} {w : World} {H : Hp} {h h' : Heap} {x e : Addr} {o' : HO}
theorem HOk.write (ok : HOk P w H h) (mu : Mut (H x)) (he : e = x ∨ H e = some (.own x)) (k : ∀ b u, b ≠ e -> h.get? b = some u -> h'.get? b = some u) (heo : ∃ u, h'.get? e = some u)
  (new : Zcg P w (upd H x o') h' x o') : HOk P w (upd H x o') h' := fun b u q => by
 have nown : ∀ c y, H c = some (.own y) -> c ≠ x := fun c y r z => by subst z; rw [r] at mu; exact mu
 have ntup : ∀ c xs, H c = some (.tup xs) -> c ≠ x := fun c xs r z => by subst z; rw [r] at mu; exact mu
 by_cases hb : b = x
 ·subst hb; rw [upd_same] at q; cases q; exact new
 ·rw [Zah hb] at q
  by_cases hbe : b = e
  ·have q' : H b = some (.own x) := by
    rcases he with z | z
    ·exact absurd (hbe.trans z) hb
    ·rw [hbe]; exact z
   rw [q] at q'; cases q'
   obtain ⟨v, hv⟩ := heo
   exact ⟨v, by rw [hbe]; exact hv⟩
  ·refine (ok b u q).stay (fun c v hc r => k c v ?_ r) (fun c r => by rw [Zah (nown c b r)]; exact r) fun c xs r => by rw [Zah (ntup c xs r)]; exact r
   rcases hc with rfl | hc
   ·exact hbe
   ·rintro rfl
    rcases he with z | z
    ·exact nown c b hc z
    ·rw [hc] at z; cases z; exact hb rfl
end
structure Un (fs ex : List Addr) (H H' : Hp) (h h' : Heap) : Prop where
 keep : ∀ b o, h.get? b = some o -> H b = none -> b ∉ fs -> b ∉ ex -> h'.get? b = some o
 slot : ∀ b o, h.get? b = some o -> H b = none -> b ∈ fs -> b ∉ ex -> ∃ sl, h'.get? b = some { o with slots := sl }
 free : ∀ b o, h.get? b = some o -> H b = none -> b ∉ ex -> H' b = none
 there : ∀ b o, h.get? b = some o -> b ∉ ex -> ∃ o', h'.get? b = some o'
 tups : ∀ b xs, H b = some (.tup xs) -> H' b = some (.tup xs)
 frzs : ∀ b o u, H b = some (.frz o u) -> H' b = some (.frz o u)
 tbls : ∀ b ps, H b = some (.tbl ps) -> ∃ more, H' b = some (.tbl (ps ++ more))
section
variable {fs fs' ex ex' : List Addr} {H H1 H2 : Hp} {h h1 h2 h' : Heap} {a x e : Addr} {o : HO}
theorem Un.any (u : Un fs ex H H1 h h1) {b : Addr} {ob : Obj} (q : h.get? b = some ob) (n : H b = none) (hx : b ∉ ex) : ∃ sl, h1.get? b = some { ob with slots := sl } := by
 by_cases hb : b ∈ fs
 ·exact u.slot b ob q n hb hx
 ·exact ⟨ob.slots, u.keep b ob q n hb hx⟩
theorem Un.trans (a : Un fs ex H H1 h h1) (b : Un fs ex H1 H2 h1 h2) : Un fs ex H H2 h h2 where
 keep := fun c ob q n hc hx => b.keep c ob (a.keep c ob q n hc hx) (a.free c ob q n hx) hc hx
 slot := fun c ob q n hc hx => by
  obtain ⟨sl, e1⟩ := a.slot c ob q n hc hx
  obtain ⟨sl', e2⟩ := b.slot c _ e1 (a.free c ob q n hx) hc hx
  exact ⟨sl', e2⟩
 free := fun c ob q n hx => by
  obtain ⟨o', e1⟩ := a.there c ob q hx
  exact b.free c o' e1 (a.free c ob q n hx) hx
 there := fun c ob q hx => by
  obtain ⟨o', e1⟩ := a.there c ob q hx
  exact b.there c o' e1 hx
 tups := fun c xs q => b.tups c xs (a.tups c xs q)
 frzs := fun c ob xs q => b.frzs c ob xs (a.frzs c ob xs q)
 tbls := fun c ps q => by
  obtain ⟨m1, e1⟩ := a.tbls c ps q
  obtain ⟨m2, e2⟩ := b.tbls c _ e1
  exact ⟨m1 ++ m2, by rw [e2, Array.append_assoc]⟩
theorem Un.kept (k : ∀ b u, h.get? b = some u -> h'.get? b = some u) : Un fs ex H H h h' :=
 ⟨fun b ob q _ _ _ => k b ob q, fun b ob q _ _ _ => ⟨ob.slots, k b ob q⟩, fun _ _ _ n _ => n, fun b ob q _ => ⟨ob, k b ob q⟩, fun _ _ q => q, fun _ _ _ q => q, fun _ ps q => ⟨#[], by rw [q]; simp⟩⟩
theorem Un.refl : Un fs ex H H h h := Un.kept fun _ _ q => q
theorem Un.laid (k : ∀ b u, h.get? b = some u -> h'.get? b = some u) (hp : h.objs.size ≤ a) (hn : H a = none) : Un fs ex H (upd H a o) h h' where
 keep := fun b u q _ _ _ => k b u q
 slot := fun b u q _ _ _ => ⟨u.slots, k b u q⟩
 free := fun b u q n _ => by rw [Zah (Nat.ne_of_lt (Nat.lt_of_lt_of_le (Heap.lt_size q) hp))]; exact n
 there := fun b u q _ => ⟨u, k b u q⟩
 tups := fun b xs q => by rw [Zah (Zai q hn)]; exact q
 frzs := fun b u xs q => by rw [Zah (Zai q hn)]; exact q
 tbls := fun b ps q => ⟨#[], by rw [Zah (Zai q hn), q]; simp⟩
theorem Un.write (mu : Mut (H x)) (he : e = x ∨ H e = some (.own x)) (k : ∀ b u, b ≠ e -> h.get? b = some u -> h'.get? b = some u) (heo : ∃ u, h'.get? e = some u) : Un fs ex H (upd H x o) h h' := by
 have hx : ∀ b, H b = none -> b ≠ x := fun b n z => by subst z; rw [n] at mu; exact mu
 have hb : ∀ b, H b = none -> b ≠ e := fun b n z => by
  subst z
  rcases he with r | r
  ·exact hx b n r
  ·rw [n] at r; cases r
 have hm : ∀ b u, H b = some u -> ¬ Mut (some u) -> b ≠ x := fun b u q nm z => by subst z; rw [q] at mu; exact nm mu
 refine ⟨fun b u q n _ _ => k b u (hb b n) q, fun b u q n _ _ => ⟨u.slots, k b u (hb b n) q⟩, fun b u q n _ => by rw [Zah (hx b n)]; exact n, fun b u q _ => ?_,
  fun b xs q => by rw [Zah (hm b _ q fun z => z)]; exact q, fun b u xs q => by rw [Zah (hm b _ q fun z => z)]; exact q, fun b ps q => ⟨#[], by rw [Zah (hm b _ q fun z => z), q]; simp⟩⟩
 by_cases hbe : b = e
 ·subst hbe; exact heo
 ·exact ⟨u, k b u hbe q⟩
theorem Un.mono (u : Un fs ex H H1 h h1) (hs : ∀ b ∈ fs, b ∈ fs') (hx : ∀ b ∈ ex, b ∈ ex') : Un fs' ex' H H1 h h1 :=
 ⟨fun b ob q n hb he => u.keep b ob q n (fun z => hb (hs b z)) fun z => he (hx b z), fun _ _ q n _ he => u.any q n fun z => he (hx _ z), fun b ob q n he => u.free b ob q n fun z => he (hx b z), fun b ob q he => u.there b ob q fun z => he (hx b z), u.tups, u.frzs, u.tbls⟩
end
noncomputable def trk (h : Heap) (H : Hp) : List Addr := (List.range h.objs.size).filter fun a => (H a).isSome
noncomputable def Ztf (h : Heap) (H : Hp) : Heap := PySem.W.hideAll h (trk h H)
theorem Zq7 (h : Heap) (H : Hp) : (Ztf h H).objs.size = h.objs.size := PySem.W.hideAll_size _ _
theorem Ztu {h : Heap} {H : Hp} {b : Addr} {o : Obj} (e : h.get? b = some o) (n : H b = none) : (Ztf h H).get? b = some o :=
 PySem.W.hideAll_get _ e fun hm => by
  have q : (H b).isSome = true := (List.mem_filter.mp hm).2
  rw [n] at q; simp at q
theorem Zwq {h : Heap} {H : Hp} {b : Addr} {o : Obj} (e : (Ztf h H).get? b = some o) : h.get? b = some o ∧ H b = none := by
 have e' : h.get? b = some o := PySem.W.of_hideAll (trk h H) e
 refine ⟨e', ?_⟩
 cases q : H b with
 | none => rfl
 | some x =>
  have hm : b ∈ trk h H := List.mem_filter.mpr ⟨List.mem_range.mpr (Heap.lt_size e'), by simp [q]⟩
  have z : (Ztf h H).get? b = none := PySem.W.hideAll_none (trk h H) hm
  rw [z] at e; cases e
structure Mod (K : PySem.W.Frag) (mg : Str -> Option Value) (base : Heap) : Prop where
 kin : K.In base
 glob : base.Ns mainGlobals mg
 blt : ∃ mb, base.Ns builtinsNs mb ∧ ∀ x : Str, x ≠ "__name__" → mb x = bootBuiltins x
 nolimit : base.NoLimit
structure Cx where
 prog : Program
 w : World
 K : PySem.W.Frag
 mg : Str -> Option Value
 base : Heap
 A : Around
 N : List Str
 s₀ : Shared
 H₀ : Hp
 env : Env
 outer : List Env
 stack : List Env
 ex : List Addr
 fn : Str -> Bool
 calm : Bool
 pn : List (Addr × Obj)
 xe : Value -> Shared -> Prop
noncomputable def frs (l : List Env) : List Addr := l.filterMap (·.frame)
noncomputable abbrev Cx.fs (X : Cx) : List Addr := frs X.outer
noncomputable def Vis (sc : Scope) (x : Str) : Prop := sc.names.lookup x = some .local ∨ sc.names.lookup x = some .cell ∨ sc.names.lookup x = some .free
noncomputable def Loc (sc : Scope) (x : Str) : Prop := sc.names.lookup x = some .local ∨ sc.names.lookup x = some .cell
noncomputable def Look (env : Env) (h : Heap) (m : Str -> Option Value) (x : Str) (u : Value) : Prop :=
 (env.kindOf x = some .local ∧ m x = some u) ∨ ((env.kindOf x = some .cell ∨ env.kindOf x = some .free) ∧ ∃ c, env.cells.lookup x = some c ∧ h.IsCell c (some u))
structure Cx.Ok (X : Cx) : Prop where
 mod : Mod X.K X.mg X.base
 kind : X.env.scope.kind = .function
 glob : X.env.globals = mainGlobals
 blt : X.env.builtins = builtinsNs
 above : X.s₀.heap.objs.size ≤ X.env.locals
 inj : ∀ x y c, X.env.cells.lookup x = some c -> X.env.cells.lookup y = some c -> x = y
 has : ∀ x, (X.env.kindOf x = some .cell ∨ X.env.kindOf x = some .free) -> ∃ c, X.env.cells.lookup x = some c
 cab : ∀ x c, X.fn x = true -> X.env.cells.lookup x = some c -> X.s₀.heap.objs.size ≤ c
 hd : X.calm = true -> X.A.handled = none
 frames : X.A.frames = some X.stack
 stk : X.stack = X.outer ∨ (X.stack = X.env :: X.outer ∧ X.env.frame = some X.env.locals)
 exf : ∀ b ∈ X.ex, b ≠ X.env.locals ∧ ∀ x c, X.env.cells.lookup x = some c -> c ≠ b
 bs : ∀ b o, X.base.get? b = some o -> X.s₀.heap.get? b = some o ∧ X.H₀ b = none
 bsz : X.base.objs.size ≤ X.s₀.heap.objs.size
 noex : ∀ b o, X.base.get? b = some o -> b ∉ X.ex
 exfs : ∀ b ∈ X.ex, b ∉ X.fs
 funs : X.s₀.heap.FunFrames X.base X.outer
 frf : ∀ b ∈ X.fs, X.H₀ b = none
structure Inv (X : Cx) (pins : List (Addr × Obj)) (σ : List (Option V)) (H : Hp) (s : Shared) : Prop where
 ok : X.Ok
 os : s.os = X.s₀.os
 bare : AllBare s.gens
 base : Un X.fs X.ex X.H₀ H X.s₀.heap s.heap
 loc : ∃ m, s.heap.Ns X.env.locals m ∧ ∀ (i : Nat) (x : Str) (v : V), X.N[i]? = some x -> σ[i]? = some (some v) -> Vis X.env.scope x -> ∃ u, Zb2 v u ∧ Look X.env s.heap m x u
 cell : ∀ x c, X.env.cells.lookup x = some c -> ∃ v, s.heap.IsCell c v
 free : H X.env.locals = none
 freeC : ∀ x c, X.env.cells.lookup x = some c -> H c = none
 pin : ∀ p ∈ X.pn ++ pins, s.heap.get? p.1 = some p.2 ∧ H p.1 = none ∧ p.1 ≠ X.env.locals ∧ p.1 ∉ X.fs ∧ ∀ v, p.2.data ≠ .cell v
 hok : HOk X.prog X.w H s.heap
 len : σ.length = X.N.length
section
variable {X : Cx} {pins : List (Addr × Obj)} {σ : List (Option V)} {H H' : Hp} {s : Shared} {h' : Heap}
theorem Cx.Ok.nofr (ok : X.Ok) {b : Addr} {o : Obj} (e : X.base.get? b = some o) : b ∉ X.fs := fun hb => by
 have := (ok.funs.mem hb).1
 rw [e] at this; cases this
theorem Inv.bs (I : Inv X pins σ H s) : ∀ b o, X.base.get? b = some o -> s.heap.get? b = some o ∧ H b = none := fun b o e =>
 ⟨I.base.keep b o (I.ok.bs b o e).1 (I.ok.bs b o e).2 (I.ok.nofr e) (I.ok.noex b o e), I.base.free b o (I.ok.bs b o e).1 (I.ok.bs b o e).2 (I.ok.noex b o e)⟩
theorem Inv.bk (I : Inv X pins σ H s) : ∀ b o, X.base.get? b = some o -> s.heap.get? b = some o := fun b o e => (I.bs b o e).1
theorem Inv.mod (I : Inv X pins σ H s) : Mod X.K X.mg X.base := I.ok.mod
theorem Inv.kIn (I : Inv X pins σ H s) : X.K.In s.heap := I.ok.mod.kin.keeps I.bk
theorem Inv.lt (I : Inv X pins σ H s) : X.env.locals < s.heap.objs.size := let ⟨_, hn, _⟩ := I.loc; hn.lt
theorem Inv.sz (I : Inv X pins σ H s) : X.s₀.heap.objs.size ≤ s.heap.objs.size := Nat.le_trans I.ok.above (Nat.le_of_lt I.lt)
theorem Inv.nofs (I : Inv X pins σ H s) {a : Addr} (h : s.heap.objs.size ≤ a) : a ∉ X.fs := fun hb => by
 obtain ⟨_, o, ho, _⟩ := I.ok.funs.mem hb
 exact absurd (Nat.lt_of_lt_of_le (Heap.lt_size ho) (Nat.le_trans I.sz h)) (Nat.lt_irrefl _)
theorem Inv.cne (I : Inv X pins σ H s) : ∀ x c, X.env.cells.lookup x = some c -> c ≠ X.env.locals := fun x c e z => by
 obtain ⟨v, o, ho, hd⟩ := I.cell x c e
 obtain ⟨m, ⟨o', es, ep, ho', hd', _⟩, _⟩ := I.loc
 rw [z, ho'] at ho; cases ho; rw [hd'] at hd; cases hd
theorem Inv.funs (I : Inv X pins σ H s) : s.heap.FunFrames X.base X.outer := by
 have all : ∀ (l : List Env), (∀ b ∈ frs l, b ∈ X.fs) -> X.s₀.heap.FunFrames X.base l -> s.heap.FunFrames X.base l := by
  intro l
  induction l with
  | nil => intro _ _; trivial
  | cons env r ih =>
   intro hs hl
   obtain ⟨hk, ⟨L, o, hf, hn, ho, hd⟩, hr⟩ := hl
   have hL : L ∈ X.fs := hs L (by unfold frs; rw [List.filterMap_cons, hf]; exact List.mem_cons_self)
   obtain ⟨sl, e⟩ := I.base.slot L o ho (I.ok.frf L hL) hL fun z => I.ok.exfs L z hL
   exact ⟨hk, ⟨L, _, hf, hn, e, hd⟩, ih (fun b hb => hs b (by unfold frs; rw [List.filterMap_cons, hf]; exact List.mem_cons_of_mem _ hb)) hr⟩
 exact all X.outer (fun _ hb => hb) I.ok.funs
theorem Inv.stack (I : Inv X pins σ H s) : s.heap.FunFrames X.base X.stack := by
 rcases I.ok.stk with e | ⟨e, hf⟩
 ·rw [e]; exact I.funs
 ·rw [e]
  obtain ⟨m, hn, _⟩ := I.loc
  refine .cons (by rw [I.ok.kind]; decide) hf hn ?_ I.funs
  exact Heap.get?_none_of_le (Nat.le_trans I.ok.bsz I.ok.above)
theorem Inv.stkSub (I : Inv X pins σ H s) : ∀ b ∈ frs X.stack, b ∈ X.env.locals :: X.fs := fun b hb => by
 rcases I.ok.stk with e | ⟨e, hf⟩
 ·rw [e] at hb; exact List.mem_cons_of_mem _ hb
 ·rw [e] at hb
  unfold frs at hb
  rw [List.filterMap_cons, hf] at hb
  exact hb
theorem Inv.stkFree (I : Inv X pins σ H s) : ∀ b ∈ frs X.stack, H b = none := fun b hb => by
 rcases List.mem_cons.mp (I.stkSub b hb) with e | hb
 ·rw [e]; exact I.free
 ·obtain ⟨_, o, ho, _⟩ := I.ok.funs.mem hb
  exact I.base.free b o ho (I.ok.frf b hb) fun z => I.ok.exfs b z hb
theorem Inv.step {g' : Array GenState} {t' : Nat} {d' : Drawn} {ch : List Addr} (I : Inv X pins σ H s)
  (hch : ∀ b ∈ ch, (b ∈ X.ex ∨ X.s₀.heap.objs.size ≤ b) ∧ b ≠ X.env.locals ∧ (∀ x c, X.env.cells.lookup x = some c -> c ≠ b) ∧ ∀ p ∈ X.pn ++ pins, p.1 ≠ b)
  (keep : ∀ b o, b ≠ X.env.locals -> b ∉ X.fs -> b ∉ ch -> s.heap.get? b = some o -> H b = none -> h'.get? b = some o)
  (slot : ∀ b o, b ≠ X.env.locals -> b ∈ X.fs -> b ∉ ch -> s.heap.get? b = some o -> H b = none -> ∃ sl, h'.get? b = some { o with slots := sl }) (free : ∀ b o, b ∉ ch -> s.heap.get? b = some o -> H b = none -> H' b = none)
  (there : ∀ b o, b ∉ ch -> s.heap.get? b = some o -> ∃ o', h'.get? b = some o')
  (tups : ∀ b xs, H b = some (.tup xs) -> H' b = some (.tup xs)) (frzs : ∀ b o u, H b = some (.frz o u) -> H' b = some (.frz o u)) (tbls : ∀ b ps, H b = some (.tbl ps) -> ∃ more, H' b = some (.tbl (ps ++ more)))
  (ns : ∀ m, s.heap.Ns X.env.locals m -> h'.Ns X.env.locals m) (hok : HOk X.prog X.w H' h') (hg : AllBare g') :
  Inv X pins σ H' { s with heap := h', gens := g', drawn := d', toks := t' } := by
 have neL : ∀ b o, X.s₀.heap.get? b = some o -> b ≠ X.env.locals := fun b o e => Nat.ne_of_lt (Nat.lt_of_lt_of_le (Heap.lt_size e) I.ok.above)
 have neC : ∀ b o, X.s₀.heap.get? b = some o -> b ∉ X.ex -> b ∉ ch := fun b o e hx hb => by
  rcases (hch b hb).1 with z | z
  ·exact hx z
  ·exact absurd (Nat.lt_of_lt_of_le (Heap.lt_size e) z) (Nat.lt_irrefl _)
 have cellK : ∀ x c, X.env.cells.lookup x = some c -> ∀ v, s.heap.IsCell c v -> h'.IsCell c v := fun x c e v ⟨o, ho, hd⟩ => by
  have nch : c ∉ ch := fun z => (hch c z).2.2.1 x c e rfl
  by_cases hc : c ∈ X.fs
  ·obtain ⟨sl, q⟩ := slot c o (I.cne x c e) hc nch ho (I.freeC x c e)
   exact ⟨_, q, hd⟩
  ·exact ⟨o, keep c o (I.cne x c e) hc nch ho (I.freeC x c e), hd⟩
 refine ⟨I.ok, I.os, hg, ⟨fun b o e n hb hx => ?_, fun b o e n hb hx => ?_, fun b o e n hx => ?_, fun b o e hx => ?_, fun b xs e => tups b xs (I.base.tups b xs e), fun b o xs e => frzs b o xs (I.base.frzs b o xs e), fun b ps e => ?_⟩, ?_, fun x c e => ?_, ?_, fun x c e => ?_, fun p hp => ?_, hok, I.len⟩
 ·exact keep b o (neL b o e) hb (neC b o e hx) (I.base.keep b o e n hb hx) (I.base.free b o e n hx)
 ·obtain ⟨sl, e1⟩ := I.base.slot b o e n hb hx
  obtain ⟨sl', e2⟩ := slot b _ (neL b o e) hb (neC b o e hx) e1 (I.base.free b o e n hx)
  exact ⟨sl', e2⟩
 ·obtain ⟨o', e1⟩ := I.base.there b o e hx
  exact free b o' (neC b o e hx) e1 (I.base.free b o e n hx)
 ·obtain ⟨o', e1⟩ := I.base.there b o e hx
  exact there b o' (neC b o e hx) e1
 ·obtain ⟨m1, e1⟩ := I.base.tbls b ps e
  obtain ⟨m2, e2⟩ := tbls b _ e1
  exact ⟨m1 ++ m2, by rw [e2, Array.append_assoc]⟩
 ·obtain ⟨m, hn, hl⟩ := I.loc
  refine ⟨m, ns m hn, fun i x v e1 e2 e3 => ?_⟩
  obtain ⟨u, r, l⟩ := hl i x v e1 e2 e3
  refine ⟨u, r, ?_⟩
  rcases l with l | ⟨k, c, e, z⟩
  ·exact .inl l
  ·exact .inr ⟨k, c, e, cellK x c e _ z⟩
 ·obtain ⟨v, z⟩ := I.cell x c e
  exact ⟨v, cellK x c e v z⟩
 ·obtain ⟨m, ⟨o, _, _, ho, _⟩, _⟩ := I.loc
  exact free _ o (fun z => (hch _ z).2.1 rfl) ho I.free
 ·obtain ⟨v, o, ho, hd⟩ := I.cell x c e
  exact free c o (fun z => (hch c z).2.2.1 x c e rfl) ho (I.freeC x c e)
 ·obtain ⟨e, n, ne, nf, d⟩ := I.pin p hp
  have nch : p.1 ∉ ch := fun z => (hch p.1 z).2.2.2 p hp rfl
  exact ⟨keep p.1 p.2 ne nf nch e n, free p.1 p.2 nch e n, ne, nf, d⟩
theorem Inv.un {t' : Nat} (I : Inv X pins σ H s) (u : Un X.fs [] H H' s.heap h') (hok : HOk X.prog X.w H' h') : Inv X pins σ H' { s with heap := h', toks := t' } := by
 obtain ⟨m, ⟨o, es, ep, ho, r⟩, _⟩ := id I.loc
 obtain ⟨sl, hL⟩ := u.any ho I.free (by simp)
 exact I.step (g' := s.gens) (d' := s.drawn) (ch := []) (fun _ z => nomatch z) (fun b o _ hb _ e n => u.keep b o e n hb (by simp)) (fun b o _ hb _ e n => u.slot b o e n hb (by simp)) (fun b o _ e n => u.free b o e n (by simp)) (fun b o _ e => u.there b o e (by simp)) u.tups u.frzs u.tbls (fun m' hm => by
  obtain ⟨o', es', ep', ho', r'⟩ := hm
  rw [ho] at ho'; cases ho'
  exact ⟨_, es', ep', hL, r'⟩) hok I.bare
theorem Inv.call {g' : Array GenState} {t' : Nat} {d' : Drawn} {ch : List Addr} (I : Inv X pins σ H s) (u : Un (frs X.stack) ch H H' s.heap h') (hok : HOk X.prog X.w H' h') (hg : AllBare g')
  (hch : ∀ b ∈ ch, (b ∈ X.ex ∨ X.s₀.heap.objs.size ≤ b) ∧ b ≠ X.env.locals ∧ (∀ x c, X.env.cells.lookup x = some c -> c ≠ b) ∧ ∀ p ∈ X.pn ++ pins, p.1 ≠ b) :
  Inv X pins σ H' { s with heap := h', gens := g', drawn := d', toks := t' } := by
 obtain ⟨m, ⟨o, es, ep, ho, r⟩, _⟩ := id I.loc
 obtain ⟨sl, hL⟩ := u.any ho I.free fun z => (hch _ z).2.1 rfl
 exact I.step (ch := ch) hch (fun b o hL hb hc e n => u.keep b o e n (fun z => (List.mem_cons.mp (I.stkSub b z)).elim hL hb) hc) (fun b o _ _ hc e n => u.any e n hc) (fun b o hc e n => u.free b o e n hc) (fun b o hc e => u.there b o e hc) u.tups u.frzs u.tbls (fun m' hm => by
  obtain ⟨o', es', ep', ho', r'⟩ := hm
  rw [ho] at ho'; cases ho'
  exact ⟨_, es', ep', hL, r'⟩) hok hg
theorem Inv.turned {t' : Nat} {it : Addr} (I : Inv X pins σ H s) (k : ∀ b o, b ≠ it -> s.heap.get? b = some o -> h'.get? b = some o) (hn : H it = none) (hL : it ≠ X.env.locals)
  (h1 : it ∈ X.ex ∨ X.s₀.heap.objs.size ≤ it) (h2 : ∀ x c, X.env.cells.lookup x = some c -> c ≠ it) (h3 : ∀ p ∈ X.pn ++ pins, p.1 ≠ it) : Inv X pins σ H { s with heap := h', toks := t' } := by
 have nit : ∀ b u, H b = some u -> b ≠ it := fun b u e z => by rw [z, hn] at e; cases e
 refine I.step (g' := s.gens) (d' := s.drawn) (ch := [it]) (fun b hb => ?_) (fun b o _ _ hc e _ => k b o (fun z => hc (by simp [z])) e) (fun b o _ _ hc e _ => ⟨o.slots, k b o (fun z => hc (by simp [z])) e⟩) (fun _ _ _ _ n => n)
  (fun b o hc e => ⟨o, k b o (fun z => hc (by simp [z])) e⟩) (fun _ _ e => e) (fun _ _ _ e => e) (fun b ps e => ⟨#[], by rw [e]; simp⟩) (fun m hm => ?_) (fun b u e => ?_) I.bare
 ·have e : b = it := by simpa using hb
  subst e
  exact ⟨h1, hL, h2, h3⟩
 ·obtain ⟨o, es, ep, ho, r⟩ := hm
  exact ⟨o, es, ep, k _ o (Ne.symm hL) ho, r⟩
 ·refine (I.hok b u e).stay (fun c v hc q => k c v ?_ q) (fun _ q => q) fun _ _ q => q
  rcases hc with z | z
  ·rw [z]; exact nit b u e
  ·exact nit c _ z
theorem Inv.tok (I : Inv X pins σ H s) (t : Nat) : Inv X pins σ H { s with toks := t } := I.un (h' := s.heap) (t' := t) Un.refl I.hok
theorem Inv.kept {t' : Nat} (I : Inv X pins σ H s) (k : ∀ b u, s.heap.get? b = some u -> h'.get? b = some u) : Inv X pins σ H { s with heap := h', toks := t' } := I.un (Un.kept k) (I.hok.kept k)
theorem Inv.laid {a : Addr} {o : HO} {t' : Nat} (I : Inv X pins σ H s) (k : ∀ b u, s.heap.get? b = some u -> h'.get? b = some u) (hp : s.heap.objs.size ≤ a) (new : Zcg X.prog X.w (upd H a o) h' a o) :
  Inv X pins σ (upd H a o) { s with heap := h', toks := t' } := I.un (Un.laid k hp (I.hok.fresh hp)) (I.hok.laid k hp new)
theorem Inv.write {x e : Addr} {o : HO} {t' : Nat} (I : Inv X pins σ H s) (mu : Mut (H x)) (he : e = x ∨ H e = some (.own x)) (k : ∀ b u, b ≠ e -> s.heap.get? b = some u -> h'.get? b = some u) (heo : ∃ u, h'.get? e = some u)
  (new : Zcg X.prog X.w (upd H x o) h' x o) : Inv X pins σ (upd H x o) { s with heap := h', toks := t' } := I.un (Un.write mu he k heo) (I.hok.write mu he k heo new)
theorem Inv.pins_of {pins' : List (Addr × Obj)} (I : Inv X pins σ H s) (h : ∀ p ∈ pins', s.heap.get? p.1 = some p.2 ∧ H p.1 = none ∧ p.1 ≠ X.env.locals ∧ p.1 ∉ X.fs ∧ ∀ v, p.2.data ≠ .cell v) : Inv X pins' σ H s :=
 ⟨I.ok, I.os, I.bare, I.base, I.loc, I.cell, I.free, I.freeC, fun p hp => (List.mem_append.mp hp).elim (fun z => I.pin p (List.mem_append_left _ z)) (h p), I.hok, I.len⟩
theorem Zjb {N : List Str} (hN : N.Nodup) {i j : Nat} {x : Str} (a : N[i]? = some x) (b : N[j]? = some x) : i = j := by
 obtain ⟨h1, e1⟩ := List.getElem?_eq_some_iff.mp a
 obtain ⟨h2, e2⟩ := List.getElem?_eq_some_iff.mp b
 exact (List.getElem_inj hN).mp (e1.trans e2.symm)
theorem Zka {M : Model} {A : Around} {E : Value -> Shared -> Prop} {i : Nat} {x : Str} {v : V} {u : Value} {Q : Unit -> Shared -> Prop} (I : Inv X pins σ H s) (hN : X.N.Nodup) (hi : X.N[i]? = some x) (hx : Loc X.env.scope x) (r : Zb2 v u)
  (h : ∀ s', Inv X pins (σ.set i (some v)) H s' -> (∃ a, Heap.SameBut a s.heap s'.heap ∧ (a = X.env.locals ∨ X.env.cells.lookup x = some a)) -> Q () s') (hf : X.fn x = true ∨ X.env.scope.names.lookup x = some .local := by first | exact .inl rfl | exact .inr rfl | assumption) : wpAny M A (storeName X.env x u) Q E s := by
 obtain ⟨m, hn, hl⟩ := id I.loc
 have hcls : (X.env.scope.kind == .class || (X.env.scope.kind == .module && X.env.locals != X.env.globals)) = false := by rw [I.ok.kind]; rfl
 have hiσ : i < σ.length := by rw [I.len]; exact (List.getElem?_eq_some_iff.mp hi).1
 have cne := I.cne
 have tracked : ∀ {a : Addr} {h' : Heap}, (∃ o, s.heap.get? a = some o ∧ H a = none) -> Heap.SameBut a s.heap h' -> HOk X.prog X.w H h' := fun {a h'} ha hs b ob e => by
  obtain ⟨_, _, hfree⟩ := ha
  refine (I.hok b ob e).stay (fun c w' hc q => (hs.2 c ?_).trans q) (fun _ q => q) fun _ _ q => q
  rintro rfl
  rcases hc with rfl | hc
  ·rw [hfree] at e; cases e
  ·rw [hfree] at hc; cases hc
 rcases hx with hk | hk
 ·refine wpAny_storeName_local hk hn (fun h' hn' hs => ?_) hcls
  obtain ⟨oL, _, _, hoL, _⟩ := id hn
  refine h _ ⟨I.ok, I.os, I.bare, ⟨fun b o e n hb hx => ?_, fun b o e n hb hx => ?_, I.base.free, fun b o e hx => ?_, I.base.tups, I.base.frzs, I.base.tbls⟩, ⟨_, hn', fun j y v' e1 e2 e3 => ?_⟩, fun y c e => ?_, I.free, I.freeC, fun p hp => ?_, tracked ⟨oL, hoL, I.free⟩ hs, by simpa using I.len⟩ ⟨_, hs, .inl rfl⟩
  ·exact (hs.2 b (Nat.ne_of_lt (Nat.lt_of_lt_of_le (Heap.lt_size e) I.ok.above))).trans (I.base.keep b o e n hb hx)
  ·obtain ⟨sl, e1⟩ := I.base.slot b o e n hb hx
   exact ⟨sl, (hs.2 b (Nat.ne_of_lt (Nat.lt_of_lt_of_le (Heap.lt_size e) I.ok.above))).trans e1⟩
  ·obtain ⟨o', e1⟩ := I.base.there b o e hx
   exact ⟨o', (hs.2 b (Nat.ne_of_lt (Nat.lt_of_lt_of_le (Heap.lt_size e) I.ok.above))).trans e1⟩
  ·by_cases hj : j = i
   ·subst hj
    rw [hi] at e1; cases e1
    rw [List.getElem?_set_self hiσ] at e2
    cases e2
    exact ⟨u, r, .inl ⟨hk, by simp⟩⟩
   ·rw [List.getElem?_set_ne (Ne.symm hj)] at e2
    obtain ⟨u', r', q⟩ := hl j y v' e1 e2 e3
    refine ⟨u', r', ?_⟩
    rcases q with ⟨k, e⟩ | ⟨k, c, e, z⟩
    ·refine .inl ⟨k, ?_⟩
     have : y ≠ x := fun e => hj (Zjb hN e1 (e ▸ hi))
     simp [this, e]
    ·exact .inr ⟨k, c, e, z.sameBut hs (cne y c e)⟩
  ·obtain ⟨w', z⟩ := I.cell y c e
   exact ⟨w', z.sameBut hs (cne y c e)⟩
  ·obtain ⟨e, n, ne, nf, d⟩ := I.pin p hp
   exact ⟨(hs.2 p.1 ne).trans e, n, ne, nf, d⟩
 ·have hfn : X.fn x = true := by
   rcases hf with z | z
   ·exact z
   ·rw [z] at hk; cases hk
  obtain ⟨c, hc⟩ := I.ok.has x (.inl hk)
  obtain ⟨w', z⟩ := I.cell x c hc
  refine wpAny_storeName_cell I.ok.kind hk hc z (fun h' hc' hs => ?_)
  obtain ⟨oc, hoc, hocd⟩ := id z
  refine h { s with heap := h' } ⟨I.ok, I.os, I.bare, ⟨fun b o e n hb hx => ?_, fun b o e n hb hx => ?_, I.base.free, fun b o e hx => ?_, I.base.tups, I.base.frzs, I.base.tbls⟩, ⟨m, hn.sameBut hs (Ne.symm (cne x c hc)), fun j y v' e1 e2 e3 => ?_⟩, fun y c' e => ?_, I.free, I.freeC, fun p hp => ?_, tracked ⟨oc, hoc, I.freeC x c hc⟩ hs, by simpa using I.len⟩ ⟨c, hs, .inr hc⟩
  ·exact (hs.2 b (Nat.ne_of_lt (Nat.lt_of_lt_of_le (Heap.lt_size e) (I.ok.cab x c hfn hc)))).trans (I.base.keep b o e n hb hx)
  ·obtain ⟨sl, e1⟩ := I.base.slot b o e n hb hx
   exact ⟨sl, (hs.2 b (Nat.ne_of_lt (Nat.lt_of_lt_of_le (Heap.lt_size e) (I.ok.cab x c hfn hc)))).trans e1⟩
  ·obtain ⟨o', e1⟩ := I.base.there b o e hx
   exact ⟨o', (hs.2 b (Nat.ne_of_lt (Nat.lt_of_lt_of_le (Heap.lt_size e) (I.ok.cab x c hfn hc)))).trans e1⟩
  ·by_cases hj : j = i
   ·subst hj
    rw [hi] at e1; cases e1
    rw [List.getElem?_set_self hiσ] at e2
    cases e2
    exact ⟨u, r, .inr ⟨.inl hk, c, hc, hc'⟩⟩
   ·rw [List.getElem?_set_ne (Ne.symm hj)] at e2
    obtain ⟨u', r', q⟩ := hl j y v' e1 e2 e3
    refine ⟨u', r', ?_⟩
    rcases q with q | ⟨k, c', e, z'⟩
    ·exact .inl q
    ·refine .inr ⟨k, c', e, z'.sameBut hs ?_⟩
     rintro rfl
     exact hj (Zjb hN e1 (I.ok.inj _ _ _ e hc ▸ hi))
  ·by_cases hcc : c' = c
   ·subst hcc; exact ⟨_, hc'⟩
   ·obtain ⟨w2, z2⟩ := I.cell y c' e
    exact ⟨w2, z2.sameBut hs hcc⟩
  ·obtain ⟨e, n, ne, nf, d⟩ := I.pin p hp
   refine ⟨(hs.2 p.1 ?_).trans e, n, ne, nf, d⟩
   intro q
   rw [q, hoc] at e
   have q' : oc = p.2 := Option.some.inj e
   exact d w' (by rw [← q']; exact hocd)
theorem Zg3 {M : Model} {A : Around} {E : Value -> Shared -> Prop} {i : Nat} {x : Str} {v : V} {u : Value} {Q : Unit -> Shared -> Prop} (I : Inv X pins σ H s) (hN : X.N.Nodup) (hi : X.N[i]? = some x) (hx : Loc X.env.scope x) (r : Zb2 v u)
  (h : ∀ s', Inv X pins (σ.set i (some v)) H s' -> Q () s') (hf : X.fn x = true ∨ X.env.scope.names.lookup x = some .local := by first | exact .inl rfl | exact .inr rfl | assumption) : wpAny M A (storeName X.env x u) Q E s :=
 Zka I hN hi hx r (fun s' I' _ => h s' I') hf
theorem Inv.call' {s' : Shared} {ch : List Addr} (I : Inv X pins σ H s) (ho : s'.os = s.os) (u : Un (frs X.stack) ch H H' s.heap s'.heap) (hok : HOk X.prog X.w H' s'.heap) (hg : AllBare s'.gens)
  (hch : ∀ b ∈ ch, (b ∈ X.ex ∨ X.s₀.heap.objs.size ≤ b) ∧ b ≠ X.env.locals ∧ (∀ x c, X.env.cells.lookup x = some c -> c ≠ b) ∧ ∀ p ∈ X.pn ++ pins, p.1 ≠ b) : Inv X pins σ H' s' := by
 obtain ⟨h', g', d', t', o'⟩ := s'
 have e : o' = s.os := ho
 subst e
 exact I.call (g' := g') (t' := t') (d' := d') u hok hg hch
end
noncomputable abbrev XK := Value -> Option Addr -> Hp -> Prop
noncomputable abbrev St := List (Option V)
noncomputable abbrev VK := V -> Hp -> Prop
noncomputable abbrev TE := St -> Hp -> VK -> Prop
noncomputable abbrev TT := St -> Hp -> (Bool -> Hp -> Prop) -> Prop
noncomputable abbrev TA := St -> Hp -> (List V -> Hp -> Prop) -> Prop
structure Ends where
 nx : St -> Hp -> Prop
 rt : VK
 bk : St -> Hp -> Prop := fun _ _ => False
 ct : St -> Hp -> Prop := fun _ _ => False
noncomputable abbrev TS := Ends -> St -> Hp -> Prop
noncomputable def EP (X : Cx) (pins : List (Addr × Obj)) (σ : St) (Q : VK) (u : Value) (s' : Shared) : Prop := ∃ v H', Inv X pins σ H' s' ∧ Zb2 v u ∧ Q v H'
noncomputable def TP (X : Cx) (pins : List (Addr × Obj)) (σ : St) (Q : Bool -> Hp -> Prop) (b : Bool) (s' : Shared) : Prop := ∃ H', Inv X pins σ H' s' ∧ Q b H'
noncomputable def AP (X : Cx) (pins : List (Addr × Obj)) (σ : St) (Q : List V -> Hp -> Prop) (us : List Value) (s' : Shared) : Prop := ∃ vs H', Inv X pins σ H' s' ∧ Zbt vs us ∧ Q vs H'
noncomputable def SP (X : Cx) (pins : List (Addr × Obj)) (D : Ends) (f : Flow) (s' : Shared) : Prop :=
 match f with
 | .next => ∃ σ' H', Inv X pins σ' H' s' ∧ D.nx σ' H'
 | .brk => ∃ σ' H', Inv X pins σ' H' s' ∧ D.bk σ' H'
 | .cont => ∃ σ' H', Inv X pins σ' H' s' ∧ D.ct σ' H'
 | .ret u => ∃ v σ' H', Inv X pins σ' H' s' ∧ Zb2 v u ∧ D.rt v H'
noncomputable def PE (X : Cx) (e : Expr) (t : TE) : Prop :=
 ∀ (pins : List (Addr × Obj)) (s : Shared) (σ : St) (H : Hp) (Q : VK), Inv X pins σ H s -> t σ H Q -> wpAny (model X.prog X.w) X.A (eval e X.env) (EP X pins σ Q) X.xe s
noncomputable def PT (X : Cx) (e : Expr) (t : TT) : Prop :=
 ∀ (pins : List (Addr × Obj)) (s : Shared) (σ : St) (H : Hp) (Q : Bool -> Hp -> Prop), Inv X pins σ H s -> t σ H Q -> wpAny (model X.prog X.w) X.A (isTrue e X.env (eval e X.env)) (TP X pins σ Q) X.xe s
noncomputable def PW (X : Cx) (e : Expr) (t : TT) : Prop :=
 ∀ (whole : Sem Value) (pins : List (Addr × Obj)) (s : Shared) (σ : St) (H : Hp) (Q : Bool -> Hp -> Prop), Inv X pins σ H s -> t σ H Q -> wpAny (model X.prog X.w) X.A (isTrue e X.env whole) (TP X pins σ Q) X.xe s
noncomputable def PA (X : Cx) (es : List Expr) (t : TA) : Prop :=
 ∀ (pos : Pos) (pins : List (Addr × Obj)) (s : Shared) (σ : St) (H : Hp) (Q : List V -> Hp -> Prop), Inv X pins σ H s -> t σ H Q -> wpAny (model X.prog X.w) X.A (spliced (backTo pos (starEach es X.env))) (AP X pins σ Q) X.xe s
noncomputable def PS (X : Cx) (st : Stmt) (t : TS) : Prop :=
 ∀ (pins : List (Addr × Obj)) (s : Shared) (σ : St) (H : Hp) (D : Ends), Inv X pins σ H s -> t D σ H -> wpAny (model X.prog X.w) X.A (exec st X.env) (SP X pins D) X.xe s
noncomputable def PSs (X : Cx) (st : List Stmt) (t : TS) : Prop :=
 ∀ (pins : List (Addr × Obj)) (s : Shared) (σ : St) (H : Hp) (D : Ends), Inv X pins σ H s -> t D σ H -> wpAny (model X.prog X.w) X.A (execs st X.env) (SP X pins D) X.xe s
theorem thn {α : Type} {t : Sem α} {Q Q' : α -> Shared -> Prop} {M : Model} {A : Around} {E : Value -> Shared -> Prop} {s : Shared} (h : wpAny M A t Q E s) (hQ : ∀ a s, Q a s -> Q' a s) : wpAny M A t Q' E s := wpAny_mono h hQ fun _ _ x => x
section
variable {X : Cx}
noncomputable def tVar (i : Nat) : TE := fun σ H Q => ∃ v, σ[i]? = some (some v) ∧ Q v H
noncomputable def tC (v : V) : TE := fun _ H Q => Q v H
theorem Zff {i : Nat} {x : Str} {pos : Pos} (hN : X.N[i]? = some x) (hv : Vis X.env.scope x) (hd : (x == ("__debug__" : Str)) = false := by decide) (hcd : (x == ("__classdict__" : Str)) = false := by decide) : PE X (.Name x pos) (tVar i) := by
 intro pins s σ H Q I h
 obtain ⟨v, e, h⟩ := h
 obtain ⟨m, hn, hl⟩ := I.loc
 obtain ⟨u, r, l⟩ := hl i x v hN e hv
 have fin : EP X pins σ Q u s := ⟨v, H, I, r, h⟩
 rcases l with ⟨hk, hm⟩ | ⟨hk, c, hc, hcell⟩
 ·exact wpAny_Name (wpAny_loadName_local I.ok.kind hk hn hm fin) hd
 ·rcases hk with hk | hk
  ·exact wpAny_Name (wpAny_loadName_cell I.ok.kind hk hc hcell fin) hd
  ·exact wpAny_Name (wpAny_loadName_free I.ok.kind hk hc hcell fin hcd) hd
theorem Zy7 {i j pos} : PE X (.Constant (.int i) j pos) (tC (.int i)) := fun _ _ _ H _ I h => wpAny_Constant_int ⟨.int i, H, I.tok _, ⟨_, rfl⟩, h⟩
theorem pe_bl {b j pos} : PE X (.Constant (.bool b) j pos) (tC (.bl b)) := fun _ _ _ H _ I h => Constant_bool ⟨.bl b, H, I, rfl, h⟩
theorem Yaf {j pos} : PE X (.Constant .none j pos) (tC .non) := fun _ _ _ H _ I h => Constant_none ⟨.non, H, I, rfl, h⟩
theorem Zrp {x j pos} : PE X (.Constant (.str x) j pos) (tC (.str x)) := fun _ _ _ H _ I h => Calls.Constant_str ⟨.str x, H, I.tok _, ⟨_, rfl⟩, h⟩
noncomputable def Gl (X : Cx) (x : Str) : Prop := X.env.kindOf x = some .globalImplicit
theorem Zdc {E : Value -> Shared -> Prop} {pins : List (Addr × Obj)} {s : Shared} {σ : St} {H : Hp} {x : Str} {u : Value} {pos : Pos} {Q : Value -> Shared -> Prop} (I : Inv X pins σ H s) (hg : Gl X x) (hm : X.mg x = some u) (h : Q u s)
  (hd : (x == ("__debug__" : Str)) = false := by decide) : wpAny (model X.prog X.w) X.A (eval (.Name x pos) X.env) Q E s :=
 Calls.Name_function_global I.ok.kind hg (Calls.loadGlobal_global (by rw [I.ok.glob]; exact I.mod.glob.keeps I.bk) hm h) hd
theorem Zey {E : Value -> Shared -> Prop} {pins : List (Addr × Obj)} {s : Shared} {σ : St} {H : Hp} {x : Str} {u : Value} {pos : Pos} {Q : Value -> Shared -> Prop} (I : Inv X pins σ H s) (hg : Gl X x) (hm : X.mg x = none) (hv : bootBuiltins x = some u) (h : Q u s)
  (hn : x ≠ "__name__" := by decide) (hd : (x == ("__debug__" : Str)) = false := by decide) : wpAny (model X.prog X.w) X.A (eval (.Name x pos) X.env) Q E s := by
 obtain ⟨mb, h1, h2⟩ := I.mod.blt
 exact Calls.Name_function_global I.ok.kind hg (Calls.loadGlobal_builtin (by rw [I.ok.glob]; exact I.mod.glob.keeps I.bk) hm (by rw [I.ok.blt]; exact h1.keeps I.bk) ((h2 x hn).trans hv) h) hd
theorem Zjh {x : Str} {v : V} {u : Value} {pos : Pos} (hg : Gl X x) (hm : X.mg x = some u) (r : Zb2 v u) (hd : (x == ("__debug__" : Str)) = false := by decide) : PE X (.Name x pos) (tC v) :=
 fun _ _ _ H _ I h => Zdc I hg hm ⟨v, H, I, r, h⟩ hd
theorem Zqr {x : Str} {v : V} {u : Value} {pos : Pos} (hg : Gl X x) (hm : X.mg x = none) (hv : bootBuiltins x = some u) (r : Zb2 v u) (hn : x ≠ "__name__" := by decide) (hd : (x == ("__debug__" : Str)) = false := by decide) : PE X (.Name x pos) (tC v) :=
 fun _ _ _ H _ I h => Zey I hg hm hv ⟨v, H, I, r, h⟩ hn hd
variable {a b : Expr} {ta tb : TE} {pos : Pos}
variable {tA tB' : TT} {rest : List Expr}
noncomputable def tAnd (t u : TT) : TT := fun σ H Q => t σ H fun c H1 => if c = true then u σ H1 Q else Q false H1
noncomputable def tOr (t u : TT) : TT := fun σ H Q => t σ H fun c H1 => if c = true then Q true H1 else u σ H1 Q
noncomputable def tNot (t : TT) : TT := fun σ H Q => t σ H fun c H1 => Q (!c) H1
theorem Zw7 (ha : PT X a tA) : PW X (.BoolOp .And [a] pos) tA := by
 intro wh pins s σ H Q I h
 refine isTrue_and (thn (ha pins s σ H Q I h) fun c s1 e => ?_)
 cases c with
 | true => exact isTrue_and_nil e
 | false => exact e
theorem Yak (ha : PT X a tA) : PW X (.BoolOp .Or [a] pos) tA := by
 intro wh pins s σ H Q I h
 refine isTrue_or (thn (ha pins s σ H Q I h) fun c s1 e => ?_)
 cases c with
 | false => exact isTrue_or_nil e
 | true => exact e
theorem Yap (ha : PT X a tA) (hb : PW X (.BoolOp .And (b :: rest) pos) tB') : PW X (.BoolOp .And (a :: b :: rest) pos) (tAnd tA tB') := by
 intro wh pins s σ H Q I h
 refine isTrue_and (thn (ha pins s σ H _ I h) fun c s1 zz => ?_)
 obtain ⟨H1, I1, q1⟩ := zz
 cases c with
 | true => exact hb wh pins s1 σ H1 Q I1 q1
 | false => exact ⟨H1, I1, q1⟩
theorem pw_or (ha : PT X a tA) (hb : PW X (.BoolOp .Or (b :: rest) pos) tB') : PW X (.BoolOp .Or (a :: b :: rest) pos) (tOr tA tB') := by
 intro wh pins s σ H Q I h
 refine isTrue_or (thn (ha pins s σ H _ I h) fun c s1 zz => ?_)
 obtain ⟨H1, I1, q1⟩ := zz
 cases c with
 | true => exact ⟨H1, I1, q1⟩
 | false => exact hb wh pins s1 σ H1 Q I1 q1
theorem Zy0 (ha : PT X a tA) : PT X (.UnaryOp .Not a pos) (tNot tA) := by
 intro pins s σ H Q I h
 exact isTrue_not (ha pins s σ H (fun c H1 => Q (!c) H1) I h)
noncomputable def tAndV (ta tb : TE) : TE := fun σ H Q => ta σ H fun x H1 => ∃ c, x = .bl c ∧ if c = true then tb σ H1 Q else Q (.bl false) H1
noncomputable def tNotV (ta : TE) : TE := fun σ H Q => ta σ H fun x H1 => ∃ c, x = .bl c ∧ Q (.bl (!c)) H1
theorem Ya4 {op} {t : TE} (h : PE X a t) : PE X (.BoolOp op [a] pos) t := fun pins s σ H Q I hw => BoolOp_one (h pins s σ H Q I hw)
theorem Ybd (ha : PE X a ta) (hb : PE X (.BoolOp .And (b :: rest) pos) tb) : PE X (.BoolOp .And (a :: b :: rest) pos) (tAndV ta tb) := by
 intro pins s σ H Q I h
 refine BoolOp_and (thn (ha pins s σ H _ I h) fun v s1 zz => ?_)
 obtain ⟨x, H1, I1, r1, q1⟩ := zz
 obtain ⟨c, rfl, q1⟩ := q1
 cases r1
 refine wpAny_truthy_bool ?_
 cases c with
 | true => exact hb pins s1 σ H1 Q I1 q1
 | false => exact ⟨.bl false, H1, I1, rfl, q1⟩
theorem Ybe (ha : PE X a ta) : PE X (.UnaryOp .Not a pos) (tNotV ta) := by
 intro pins s σ H Q I h
 refine UnaryOp_ (thn (ha pins s σ H _ I h) fun v s1 zz => ?_)
 obtain ⟨x, H1, I1, r1, q1⟩ := zz
 obtain ⟨c, rfl, q1⟩ := q1
 cases r1
 exact not_of (wpAny_truthy_bool ⟨.bl (!c), H1, I1, rfl, q1⟩)
end
noncomputable def SqL (K : PySem.W.Frag) (H : Hp) (a : Addr) (xs : List V) : Prop :=
 Rd H a (.lst xs) ∨
  ∃ (o : Obj) (its : Array Value) (n : Nat), K.lookup a = some o ∧ o.cls = .type "list" ∧ o.dict = none ∧ o.data = .seq its n ∧ its.size ≤ sizeLine ∧ Zbt xs its.toList
noncomputable def SqT (K : PySem.W.Frag) (H : Hp) (a : Addr) (xs : List V) : Prop :=
 Rd H a (.tup xs) ∨
  ∃ (o : Obj) (its : Array Value) (n : Nat), K.lookup a = some o ∧ o.cls = .type "tuple" ∧ o.data = .seq its n ∧ its.size ≤ sizeLine ∧ Zbt xs its.toList ∧ o.dict = none
noncomputable def absV : Value -> Option V
 | .none => some .non
 | .bool b => some (.bl b)
 | .int i _ => some (.int i)
 | .str x _ => some (.str x)
 | .bytes b _ => some (.byt b)
 | .float b _ => some (.flt b)
 | .ref a => some (.ref a)
 | .type n => some (.ty n)
 | _ => none
theorem Zb2.abs {x : V} {u : Value} (r : Zb2 x u) : absV u = some x := by
 cases x with
 | non => cases r; rfl
 | bl _ => cases r; rfl
 | int _ => obtain ⟨t, rfl⟩ := r; rfl
 | str _ => obtain ⟨t, rfl⟩ := r; rfl
 | byt _ => obtain ⟨t, rfl⟩ := r; rfl
 | flt _ => obtain ⟨t, rfl⟩ := r; rfl
 | ref _ => cases r; rfl
 | ty _ => cases r; rfl
theorem Zb2.inj {x y : V} {u : Value} (r : Zb2 x u) (q : Zb2 y u) : x = y := Option.some.inj (r.abs.symm.trans q.abs)
theorem Zbt.inj : ∀ {xs ys : List V} {us : List Value}, Zbt xs us -> Zbt ys us -> xs = ys := by
 intro xs ys us h
 induction h generalizing ys with
 | nil => intro h'; cases h'; rfl
 | cons r t ih =>
  intro h'
  cases h' with
  | cons r' t' => rw [r.inj r', ih t']
section
variable {X : Cx} {pins : List (Addr × Obj)} {σ : St} {H : Hp} {s : Shared} {a : Addr} {xs ys : List V}
theorem SqL.of {K : PySem.W.Frag} (h : H a = some (.lst xs)) : SqL K H a xs := .inl (.inl h)
theorem SqT.of {K : PySem.W.Frag} (h : H a = some (.tup xs)) : SqT K H a xs := .inl (.inl h)
theorem Inv.list (I : Inv X pins σ H s) (h : SqL X.K H a xs) : ∃ its : List Value, Zbt xs its ∧ PlainL s.heap a its.toArray ∧ xs.length ≤ sizeLine := by
 rcases h with h | ⟨o, its, n, hk, hc, hd, hs, hz, r⟩
 ·obtain ⟨z, its, n, r, e⟩ := h.ok I.hok
  exact ⟨its, r, ⟨_, n, e, rfl, rfl, rfl⟩, z⟩
 ·refine ⟨its.toList, r, ⟨o, n, I.kIn a o hk, hc, hd, by simpa using hs⟩, ?_⟩
  have e := r.length
  simp only [Array.length_toList] at e
  omega
theorem Inv.tuple (I : Inv X pins σ H s) (h : SqT X.K H a xs) : ∃ its : List Value, Zbt xs its ∧ IsTup s.heap a its.toArray ∧ xs.length ≤ sizeLine := by
 rcases h with h | ⟨o, its, n, hk, hc, hs, hz, r, _⟩
 ·obtain ⟨z, its, r, p⟩ := h.ok I.hok
  exact ⟨its, r, p.tup, z⟩
 ·refine ⟨its.toList, r, ⟨o, I.kIn a o hk, hc, n, by simpa using hs⟩, ?_⟩
  have e := r.length
  simp only [Array.length_toList] at e
  omega
theorem Inv.list_inj (I : Inv X pins σ H s) (h : SqL X.K H a xs) (h' : SqL X.K H a ys) : xs = ys := by
 obtain ⟨its, r, ⟨o, n, e, _, _, d⟩, _⟩ := I.list h
 obtain ⟨its', r', ⟨o', n', e', _, _, d'⟩, _⟩ := I.list h'
 rw [e] at e'; cases e'
 rw [d] at d'
 injection d' with d1 _
 have : its = its' := by simpa using congrArg Array.toList d1
 subst this
 exact r.inj r'
theorem Inv.tuple_inj (I : Inv X pins σ H s) (h : SqT X.K H a xs) (h' : SqT X.K H a ys) : xs = ys := by
 obtain ⟨its, r, ⟨o, e, _, n, d⟩, _⟩ := I.tuple h
 obtain ⟨its', r', ⟨o', e', _, n', d'⟩, _⟩ := I.tuple h'
 rw [e] at e'; cases e'
 rw [d] at d'
 injection d' with d1 _
 have : its = its' := by simpa using congrArg Array.toList d1
 subst this
 exact r.inj r'
end
noncomputable abbrev Cx.wish (X : Cx) (E : Value -> Shared -> Prop) : Cx := { X with xe := E }
noncomputable abbrev Cx.nox (X : Cx) : Cx := X.wish fun _ _ => False
theorem Cx.Ok.wish {X : Cx} (ok : X.Ok) (E : Value -> Shared -> Prop) : (X.wish E).Ok :=
 ⟨ok.mod, ok.kind, ok.glob, ok.blt, ok.above, ok.inj, ok.has, ok.cab, ok.hd, ok.frames, ok.stk, ok.exf, ok.bs, ok.bsz, ok.noex, ok.exfs, ok.funs, ok.frf⟩
theorem Cx.Ok.unwish {X : Cx} {E : Value -> Shared -> Prop} (ok : (X.wish E).Ok) : X.Ok :=
 ⟨ok.mod, ok.kind, ok.glob, ok.blt, ok.above, ok.inj, ok.has, ok.cab, ok.hd, ok.frames, ok.stk, ok.exf, ok.bs, ok.bsz, ok.noex, ok.exfs, ok.funs, ok.frf⟩
section
variable {X : Cx} {pins : List (Addr × Obj)} {σ : St} {H : Hp} {s : Shared} {E : Value -> Shared -> Prop}
theorem Inv.wish (I : Inv X pins σ H s) (E : Value -> Shared -> Prop) : Inv (X.wish E) pins σ H s := ⟨I.ok.wish E, I.os, I.bare, I.base, I.loc, I.cell, I.free, I.freeC, I.pin, I.hok, I.len⟩
theorem Inv.unwish (I : Inv (X.wish E) pins σ H s) : Inv X pins σ H s := ⟨I.ok.unwish, I.os, I.bare, I.base, I.loc, I.cell, I.free, I.freeC, I.pin, I.hok, I.len⟩
theorem SP.unwish {D : Ends} {f : Flow} {s' : Shared} (h : SP (X.wish E) pins D f s') : SP X pins D f s' := by
 cases f with
 | next => obtain ⟨σ', H', I, q⟩ := h; exact ⟨σ', H', I.unwish, q⟩
 | brk => obtain ⟨σ', H', I, q⟩ := h; exact ⟨σ', H', I.unwish, q⟩
 | cont => obtain ⟨σ', H', I, q⟩ := h; exact ⟨σ', H', I.unwish, q⟩
 | ret u => obtain ⟨v, σ', H', I, r, q⟩ := h; exact ⟨v, σ', H', I.unwish, r, q⟩
theorem PT.nox {e : Expr} {t : TT} (h : PT X.nox e t) : PT X e t := fun pins s σ H Q I hw =>
 wpAny_mono (h pins s σ H Q (I.wish _) hw) (fun _ _ ⟨H', I', q⟩ => ⟨H', I'.unwish, q⟩) fun _ _ z => False.elim z
theorem PSs.nox {st : List Stmt} {t : TS} (h : PSs X.nox st t) : PSs X st t := fun pins s σ H D I hw =>
 wpAny_mono (h pins s σ H D (I.wish _) hw) (fun _ _ q => q.unwish) fun _ _ z => False.elim z
end
section
variable {X : Cx} {st : Stmt} {rest : List Stmt} {t u : TS} {e : Expr} {te : TE} {pos : Pos}
noncomputable def tNext : TS := fun D σ H => D.nx σ H
noncomputable def tSeq (t u : TS) : TS := fun D σ H => t { D with nx := u D } σ H
theorem Zrb : PSs X [] tNext := fun _ _ σ H _ I h => wpAny_execs_nil ⟨σ, H, I, h⟩
theorem Zfg (h1 : PS X st t) (h2 : PSs X rest u) : PSs X (st :: rest) (tSeq t u) := by
 intro pins s σ H D I h
 refine wpAny_execs_cons (thn (h1 pins s σ H { D with nx := u D } I h) fun f s1 q => ?_)
 cases f with
 | next =>
  obtain ⟨σ', H', I', q⟩ := q
  exact h2 pins s1 σ' H' D I' q
 | ret v => exact q
 | brk => exact q
 | cont => exact q
theorem Zxf (h1 : PS X st t) : PSs X [st] t := by
 intro pins s σ H D I h
 refine wpAny_execs_cons (thn (h1 pins s σ H D I h) fun f s1 q => ?_)
 cases f with
 | next => exact wpAny_execs_nil q
 | ret v => exact q
 | brk => exact q
 | cont => exact q
theorem Inv.quiet {pins : List (Addr × Obj)} {σ : St} {H : Hp} {s : Shared} (I : Inv X pins σ H s) : interactive X.env = false := by simp [interactive, I.ok.kind]
noncomputable def tDrop (te : TE) : TS := fun D σ H => te σ H fun _ H1 => D.nx σ H1
theorem Zrt (he : PE X e te) (hs : swapsWith e none pos.line X.env = pure false := by rfl) : PS X (.Expr e pos) (tDrop te) := by
 intro pins s σ H D I h
 exact wpAny_Expr_any (thn (he pins s σ H _ I h) fun v s1 ⟨x, H1, I1, r1, q1⟩ => ⟨σ, H1, I1, q1⟩) I.quiet hs
noncomputable def tRet (te : TE) : TS := fun D σ H => te σ H D.rt
theorem Zuz (he : PE X e te) : PS X (.Return (some e) pos) (tRet te) := by
 intro pins s σ H D I h
 exact wpAny_Return_some (thn (he pins s σ H _ I h) fun v s1 ⟨x, H1, I1, r1, q1⟩ => ⟨x, σ, H1, I1, r1, q1⟩)
noncomputable def tIfS (c : TT) (t u : TS) : TS := fun D σ H => c σ H fun b H1 => if b = true then t D σ H1 else u D σ H1
theorem Zzo {c : Expr} {a b : List Stmt} {tc : TT} (hc : PT X c tc) (ha : PSs X a t) (hb : PSs X b u) : PS X (.If c a b pos) (tIfS tc t u) := by
 intro pins s σ H D I h
 refine wpAny_If (thn (hc pins s σ H _ I h) fun d s1 zz => ?_)
 obtain ⟨H1, I1, q1⟩ := zz
 cases d with
 | true => exact ha pins s1 σ H1 D I1 q1
 | false => exact hb pins s1 σ H1 D I1 q1
end
noncomputable abbrev TG := V -> St -> Hp -> (St -> Hp -> Prop) -> Prop
noncomputable abbrev TGs := List V -> St -> Hp -> (St -> Hp -> Prop) -> Prop
noncomputable def PG (X : Cx) (target : Expr) (t : TG) : Prop :=
 ∀ (pins : List (Addr × Obj)) (s : Shared) (σ : St) (H : Hp) (v : V) (u : Value) (Q : St -> Hp -> Prop), Inv X pins σ H s -> Zb2 v u -> t v σ H Q →
  wpAny (model X.prog X.w) X.A (assign target X.env u) (fun _ s' => ∃ σ' H', Inv X pins σ' H' s' ∧ Q σ' H') X.xe s
noncomputable def PGs (X : Cx) (ts : List Expr) (t : TGs) : Prop :=
 ∀ (pins : List (Addr × Obj)) (s : Shared) (σ : St) (H : Hp) (vs : List V) (us : List Value) (Q : St -> Hp -> Prop), Inv X pins σ H s -> Zbt vs us -> t vs σ H Q →
  wpAny (model X.prog X.w) X.A (assignInOrder ((assignEach ts X.env).map (·.2)) us) (fun _ s' => ∃ σ' H', Inv X pins σ' H' s' ∧ Q σ' H') X.xe s
noncomputable abbrev TSet := V -> V -> V -> Hp -> (Hp -> Prop) -> Prop
noncomputable def PSet (X : Cx) (t : TSet) : Prop :=
 ∀ (pins : List (Addr × Obj)) (s : Shared) (σ : St) (H : Hp) (o i v : V) (ov iv u : Value) (Q : Hp -> Prop), Inv X pins σ H s -> Zb2 o ov -> Zb2 i iv -> Zb2 v u -> t o i v H Q →
  wpAny (model X.prog X.w) X.A (setItem ov iv u) (fun _ s' => ∃ H', Inv X pins σ H' s' ∧ Q H') X.xe s
noncomputable abbrev TIp := V -> V -> Hp -> VK -> Prop
noncomputable def PIp (X : Cx) (op : Operator) (t : TIp) : Prop :=
 ∀ (pins : List (Addr × Obj)) (s : Shared) (σ : St) (H : Hp) (x y : V) (v u : Value) (Q : VK), Inv X pins σ H s -> Zb2 x v -> Zb2 y u -> t x y H Q →
  wpAny (model X.prog X.w) X.A (inplaceOp op v u) (EP X pins σ Q) X.xe s
section
variable {X : Cx} {pos : Pos}
noncomputable def Zrw (i : Nat) : TG := fun v σ H Q => Q (σ.set i (some v)) H
theorem Zo3 {i : Nat} {x : Str} (hN : X.N.Nodup) (hi : X.N[i]? = some x) (hx : Loc X.env.scope x) (hf : X.fn x = true ∨ X.env.scope.names.lookup x = some .local := by first | exact .inl rfl | exact .inr rfl | assumption) : PG X (.Name x pos) (Zrw i) := by
 intro pins s σ H v u Q I r h
 exact wpAny_assign_Name (Zg3 I hN hi hx r (fun s' I' => ⟨_, H, I', h⟩) hf)
noncomputable def gNil : TGs := fun vs σ H Q => vs = [] ∧ Q σ H
noncomputable def gCons (t : TG) (u : TGs) : TGs := fun vs σ H Q => ∃ v r, vs = v :: r ∧ t v σ H fun σ' H' => u r σ' H' Q
theorem Zvp : PGs X [] gNil := by
 intro pins s σ H vs us Q I r h
 obtain ⟨e, h⟩ := h
 subst e
 cases r
 exact assignInOrder_nil ⟨σ, H, I, h⟩
theorem Zr8 {e : Expr} {es : List Expr} {t : TG} {u : TGs} (h1 : PG X e t) (h2 : PGs X es u)
  (hs : (assignEach (e :: es) X.env).map (·.2) = assign e X.env :: (assignEach es X.env).map (·.2) := by rfl) : PGs X (e :: es) (gCons t u) := by
 intro pins s σ H vs us Q I r h
 obtain ⟨v, vr, e1, h⟩ := h
 subst e1
 cases r with
 | cons r rr =>
  rw [hs]
  refine assignInOrder_cons (thn (h1 pins s σ H _ _ _ I r h) fun _ s1 zz => ?_)
  obtain ⟨σ1, H1, I1, q1⟩ := zz
  exact h2 pins s1 σ1 H1 _ _ Q I1 rr q1
noncomputable def gTup (K : PySem.W.Frag) (n : Nat) (t : TGs) : TG := fun v σ H Q => ∃ a xs, v = .ref a ∧ SqT K H a xs ∧ xs.length = n ∧ t xs σ H Q
theorem Zyb {es : List Expr} {k : Nat} {t : TGs} {n : Nat} (hc : X.calm = true) (h : PGs X es t)
  (hn : (assignEach es X.env).length = n := by rfl) (hst : (assignEach es X.env).findIdx? (·.1) = none := by rfl) : PG X (.Tuple es k pos) (gTup X.K n t) := by
 intro pins s σ H v u Q I r hw
 obtain ⟨a, xs, e1, hq, hl, hw⟩ := hw
 subst e1
 cases r
 obtain ⟨its, rv, ht, hz⟩ := I.tuple hq
 refine assign_Tuple_tuple (I.ok.hd hc) ht (by simp [hn, ← hl, rv.length]) hst fun h' hx => ?_
 have I1 : Inv X pins σ H { s with heap := h' } := I.kept (t' := s.toks) fun b o e => hx b o (Nat.ne_of_lt (Heap.lt_size e)) e
 exact h pins _ σ H xs _ Q I1 (by simpa using rv) hw
noncomputable def gSub (to ti : TE) (t : TSet) : TG := fun v σ H Q => to σ H fun o H1 => ti σ H1 fun i H2 => t o i v H2 fun H3 => Q σ H3
theorem Yah {o i : Expr} {to ti : TE} {t : TSet} (ho : PE X o to) (hi : PE X i ti) (hs : PSet X t)
  (ha : ∀ v, assign (.Subscript o i pos) X.env v = (do
   let ov ← holding [v] (eval o X.env)
   let iv ← holding [v, ov] (eval i X.env)
   standAt pos
   holding [v, ov, iv] (setItem ov iv v)
   release [v, ov, iv] []) := by intro _; rfl) : PG X (.Subscript o i pos) (gSub to ti t) := by
 intro pins s σ H v u Q I r h
 rw [ha]
 refine wpAny_bind (wpAny_holding (thn (ho pins s σ H _ I h) fun ov s1 zz => ?_))
 obtain ⟨x, H1, I1, r1, q1⟩ := zz
 refine wpAny_bind (wpAny_holding (thn (hi pins s1 σ H1 _ I1 q1) fun iv s2 zz => ?_))
 obtain ⟨y, H2, I2, r2, q2⟩ := zz
 refine wpAny_bind (wpAny_standAt (wpAny_bind (wpAny_holding (thn (hs pins s2 σ H2 x y v ov iv u _ I2 r1 r2 r q2) fun _ s3 zz => ?_))))
 obtain ⟨H3, I3, q3⟩ := zz
 exact wpAny_release ⟨σ, H3, I3, q3⟩
noncomputable def tAsg (te : TE) (g : TG) : TS := fun D σ H => te σ H fun x H1 => g x σ H1 D.nx
theorem Zy2 {tg e : Expr} {te : TE} {g : TG} (he : PE X e te) (hg : PG X tg g) (hs : swapsWithSole [tg] e pos.line X.env = pure false := by rfl) (hw : swappedStores [tg] e X.env = pure none := by rfl)
  (h1 : (assignEach [tg] X.env).map (·.2) = [assign tg X.env] := by rfl) : PS X (.Assign [tg] e pos) (tAsg te g) := by
 intro pins s σ H D I h
 refine wpAny_Assign_stores (thn (he pins s σ H _ I h) fun v s1 ⟨x, H1, I1, r1, q1⟩ => ?_) hs hw
 rw [h1]
 exact thn (hg pins s1 σ H1 x v _ I1 r1 q1) fun _ s2 q => q
theorem Zuc {i : Nat} {x : Str} {e : Expr} {te : TE} {pos' : Pos} (hN : X.N.Nodup) (hi : X.N[i]? = some x) (hx : Loc X.env.scope x) (he : PE X e te) (hs : swapsWith e (some (.Name x pos')) pos.line X.env = pure false := by rfl) (hf : X.fn x = true ∨ X.env.scope.names.lookup x = some .local := by first | exact .inl rfl | exact .inr rfl | assumption) :
  PS X (.Assign [.Name x pos'] e pos) (tAsg te (Zrw i)) := by
 intro pins s σ H D I h
 refine wpAny_Assign_Name (thn (he pins s σ H _ I h) fun v s1 ⟨y, H1, I1, r1, q1⟩ => ?_) hs
 exact Zg3 I1 hN hi hx r1 (fun s2 I2 => ⟨_, H1, I2, q1⟩) hf
noncomputable def tAug (i : Nat) (te : TE) (ti : TIp) : TS := fun D σ H => ∃ x, σ[i]? = some (some x) ∧ te σ H fun y H1 => ti x y H1 fun z H2 => D.nx (σ.set i (some z)) H2
theorem Zy3 {i : Nat} {x : Str} {e : Expr} {te : TE} {op : Operator} {ti : TIp} {pos' : Pos} (hN : X.N.Nodup) (hi : X.N[i]? = some x) (hx : Loc X.env.scope x) (he : PE X e te) (ho : PIp X op ti) (hf : X.fn x = true ∨ X.env.scope.names.lookup x = some .local := by first | exact .inl rfl | exact .inr rfl | assumption) :
  PS X (.AugAssign (.Name x pos') op e pos) (tAug i te ti) := by
 intro pins s σ H D I h
 obtain ⟨v, e1, h⟩ := h
 obtain ⟨m, hn, hl⟩ := I.loc
 have vis : Vis X.env.scope x := by rcases hx with k | k; exact .inl k; exact .inr (.inl k)
 obtain ⟨u, r, l⟩ := hl i x v hi e1 vis
 refine wpAny_AugAssign_Name ?_
 have go : wpAny (model X.prog X.w) X.A (eval e X.env) (fun w s₂ => wpAny (model X.prog X.w) X.A (inplaceOp op u w) (fun r s₃ => wpAny (model X.prog X.w) X.A (storeName X.env x r) (fun _ => SP X pins D .next) X.xe s₃) X.xe s₂) X.xe s := by
  refine thn (he pins s σ H _ I h) fun w s1 zz => ?_
  obtain ⟨y, H1, I1, r1, q1⟩ := zz
  refine thn (ho pins s1 σ H1 v y u w _ I1 r r1 q1) fun z s2 zz => ?_
  obtain ⟨zv, H2, I2, r2, q2⟩ := zz
  exact Zg3 I2 hN hi hx r2 (fun s3 I3 => ⟨_, H2, I3, q2⟩) hf
 rcases l with ⟨hk, hm⟩ | ⟨hk, c, hc, hcell⟩
 ·exact wpAny_loadName_local I.ok.kind hk hn hm go
 ·rcases hk with hk | hk
  ·exact wpAny_loadName_cell I.ok.kind hk hc hcell go
  ·rcases hx with k | k
   ·have : X.env.scope.names.lookup x = some .free := hk
    rw [k] at this; cases this
   ·have : X.env.scope.names.lookup x = some .free := hk
    rw [k] at this; cases this
noncomputable def ipI (f : Int -> Int -> Int) : TIp := fun x y H Q => ∃ i j, x = .int i ∧ y = .int j ∧ Q (.int (f i j)) H
theorem Ya9 : PIp X .Sub (ipI fun i j => i - j) := by
 intro pins s σ H x y v u Q I r1 r2 h
 obtain ⟨i, j, e1, e2, q⟩ := h
 subst e1; subst e2
 obtain ⟨t, rfl⟩ := r1
 obtain ⟨t', rfl⟩ := r2
 exact isub_int ⟨.int _, H, I.tok _, ⟨_, rfl⟩, q⟩
end
section
variable {X : Cx} {pos : Pos}
noncomputable def Yaa (c : TT) (tb : TS) : TS := fun D σ H => ∃ W : Nat -> St -> Hp -> Prop, (∃ m, W m σ H) ∧ ∀ m σ H, W m σ H →
 c σ H fun b H1 => if b = true then ∃ N : St -> Hp -> Prop, (∀ σ' H', N σ' H' -> ∃ m', m' < m ∧ W m' σ' H') ∧ tb { D with nx := N, ct := N, bk := D.nx } σ H1 else D.nx σ H1
theorem Zte {c : Expr} {body : List Stmt} {tc : TT} {tb : TS} (hp : PassesOwn (model X.prog X.w) X.A X.env X.xe) (hc : PT X c tc) (hb : PSs X body tb) : PS X (.While c body [] pos) (Yaa tc tb) := by
 intro pins s σ H D I h
 obtain ⟨W, ⟨m0, w0⟩, turn⟩ := h
 refine wpAny_While (codeAny_whileLoop (fun n s' => ∃ σ' H', Inv X pins σ' H' s' ∧ W n σ' H') ?_ m0 ⟨σ, H, I, w0⟩)
 rintro n s1 ⟨σ1, H1, I1, w1⟩
 refine wpAny_passesOwn hp (thn (hc pins s1 σ1 H1 _ I1 (turn n σ1 H1 w1)) fun b s2 zz => ?_)
 obtain ⟨H2, I2, q2⟩ := zz
 cases b with
 | true =>
  obtain ⟨N, hN, q2⟩ := q2
  rw [if_pos rfl]
  refine wpAny_passesOwn hp (thn (hb pins s2 σ1 H2 _ I2 q2) fun f s3 q3 => ?_)
  cases f with
  | next =>
   obtain ⟨σ3, H3, I3, n3⟩ := q3
   obtain ⟨m', hm, w3⟩ := hN σ3 H3 n3
   exact ⟨m', hm, σ3, H3, I3, w3⟩
  | cont =>
   obtain ⟨σ3, H3, I3, n3⟩ := q3
   obtain ⟨m', hm, w3⟩ := hN σ3 H3 n3
   exact ⟨m', hm, σ3, H3, I3, w3⟩
  | brk => exact q3
  | ret v => exact q3
 | false =>
  rw [if_neg Bool.false_ne_true]
  exact wpAny_execs_nil ⟨σ1, H2, I2, q2⟩
end
structure It where
 go : Nat -> Hp -> Prop
 yld : Nat -> Hp -> V -> Hp -> Prop
 stop : Nat -> Hp -> Prop
noncomputable def Zqs (X : Cx) (pins : List (Addr × Obj)) (H : Hp) (b : Addr) : Prop :=
 H b = none ∧ b ≠ X.env.locals ∧ b ∉ X.fs ∧ (b ∈ X.ex ∨ X.s₀.heap.objs.size ≤ b) ∧ (∀ x c, X.env.cells.lookup x = some c -> c ≠ b) ∧ ∀ p ∈ X.pn ++ pins, p.1 ≠ b
theorem Inv.fpOk {X : Cx} {pins : List (Addr × Obj)} {σ : St} {H H' : Hp} {s : Shared} {b : Addr} (I : Inv X pins σ H s) (hb : s.heap.objs.size ≤ b) (hn : H' b = none) : Zqs X pins H' b := by
 refine ⟨hn, Nat.ne_of_gt (Nat.lt_of_lt_of_le I.lt hb), I.nofs hb, .inr (Nat.le_trans I.sz hb), fun x c e z => ?_, fun p hp z => ?_⟩
 ·obtain ⟨v, q⟩ := I.cell x c e
  exact absurd (Nat.lt_of_lt_of_le q.lt (by rw [z]; exact hb)) (Nat.lt_irrefl _)
 ·exact absurd (Nat.lt_of_lt_of_le (Heap.lt_size (I.pin p hp).1) (by rw [z]; exact hb)) (Nat.lt_irrefl _)
structure Turn (P : Program) (w : World) (K : PySem.W.Frag) (tg : Expr) (J : It) (fp : List Addr) (it : Addr) (tn : Nat -> Heap -> Prop) : Prop where
 mem : it ∈ fp
 obj : ∀ i h, tn i h -> ∀ b ∈ fp, ∃ o, h.get? b = some o ∧ ∀ v, o.data ≠ .cell v
 keep : ∀ i h h', tn i h -> (∀ b ∈ fp, ∀ o, h.get? b = some o -> h'.get? b = some o) -> tn i h'
 item : ∀ (X : Cx), X.prog = P -> X.w = w -> X.K = K -> X.calm = true -> ∀ (i : Nat) (pins : List (Addr × Obj)) (s : Shared) (σ : St) (H : Hp) (E : Value -> Shared -> Prop), Inv X pins σ H s -> (∀ b ∈ fp, Zqs X pins H b) -> tn i s.heap -> J.go i H →
  wpAny (model P w) X.A (pyNext (.ref it)) (fun r s1 => ∃ u, r = some u ∧
   wpAny (model P w) X.A (letOwnedTupleGo tg (.ref it) u) (fun _ s2 => ∃ x H', Inv X pins σ H' s2 ∧ Zb2 x u ∧ J.yld i H x H' ∧ tn (i + 1) s2.heap ∧ ∀ b ∈ fp, H' b = none) E s1) E s
 done : ∀ (X : Cx), X.prog = P -> X.w = w -> X.K = K -> X.calm = true -> ∀ (i : Nat) (pins : List (Addr × Obj)) (s : Shared) (σ : St) (H : Hp) (E : Value -> Shared -> Prop), Inv X pins σ H s -> (∀ b ∈ fp, Zqs X pins H b) -> tn i s.heap -> J.stop i H →
  wpAny (model P w) X.A (pyNext (.ref it)) (fun r s1 => r = none ∧ Inv X pins σ H s1) E s
 self : ∀ (A : Around) (i : Nat) (s : Shared) (Q : Value -> Shared -> Prop) (E : Value -> Shared -> Prop), tn i s.heap -> Q (.ref it) s -> wpAny (model P w) A (pyIter (.ref it)) Q E s
noncomputable abbrev TI := St -> Hp -> (It -> Hp -> Prop) -> Prop
noncomputable def PIE (X : Cx) (pins : List (Addr × Obj)) (σ : St) (tg : Expr) (R : It -> Hp -> Prop) (itv : Value) (s2 : Shared) : Prop :=
 ∃ (it : Addr) (fp : List Addr) (tn : Nat -> Heap -> Prop) (J : It) (H' : Hp), itv = .ref it ∧ Inv X pins σ H' s2 ∧ Turn X.prog X.w X.K tg J fp it tn ∧ tn 0 s2.heap ∧ (∀ b ∈ fp, Zqs X pins H' b) ∧ R J H'
noncomputable def PI (X : Cx) (tg iter : Expr) (wi : TI) : Prop :=
 ∀ (pins : List (Addr × Obj)) (s : Shared) (σ : St) (H : Hp) (R : It -> Hp -> Prop), Inv X pins σ H s -> wi σ H R →
  wpAny (model X.prog X.w) X.A (eval iter X.env) (fun v s1 => wpAny (model X.prog X.w) X.A (pyIter v) (PIE X pins σ tg R) X.xe s1) X.xe s
theorem Zv5 {M : Model} {A : Around} {E : Value -> Shared -> Prop} {s : Shared} {tg : Expr} {it : Addr} {u : Value} {o : Obj} {n : String} {vs : Array Value} {Q : Unit -> Shared -> Prop} (ho : s.heap.get? it = some o) (hc : o.cls = .type n) (hd : o.data = .fields vs)
  (hn : ["enumerate", "zip", "dict_itemiterator", "dict_reverseitemiterator", "odict_iterator", "itertools.zip_longest", "itertools.pairwise"].contains n = false) (hQ : Q () s) : wpAny M A (letOwnedTupleGo tg (.ref it) u) Q E s := by
 unfold letOwnedTupleGo
 cases tg <;> first
  | exact wpAny_pure hQ
  | (cases u <;> first
    | exact wpAny_pure hQ
    | (refine wpAny_bind (wpAny_load ho ?_)
       rw [hc, hd]
       show wpAny M A (if (["enumerate", "zip", "dict_itemiterator", "dict_reverseitemiterator", "odict_iterator", "itertools.zip_longest", "itertools.pairwise"].contains n && vs[0]? == some (rawInt _)) = true then _ else _) Q E s
       rw [if_neg (by intro h; rw [hn, Bool.false_and] at h; cases h)]
       exact wpAny_pure hQ))
noncomputable def Itl (K : PySem.W.Frag) (a : Addr) : It :=
 ⟨fun i H => ∃ xs x, SqL K H a xs ∧ xs[i]? = some x, fun i H x H' => H' = H ∧ ∀ xs, SqL K H a xs -> xs[i]? = some x, fun i H => ∃ xs, SqL K H a xs ∧ xs.length ≤ i⟩
noncomputable def Itt (K : PySem.W.Frag) (a : Addr) : It :=
 ⟨fun i H => ∃ xs x, SqT K H a xs ∧ xs[i]? = some x, fun i H x H' => H' = H ∧ ∀ xs, SqT K H a xs -> xs[i]? = some x, fun i H => ∃ xs, SqT K H a xs ∧ xs.length ≤ i⟩
noncomputable def Itr (lo : Int) (n : Nat) : It := ⟨fun i _ => i < n, fun i H x H' => H' = H ∧ x = .int (lo + i), fun i _ => n ≤ i⟩
theorem Zpb {P : Program} {w : World} {K : PySem.W.Frag} {tg : Expr} (a it : Addr) : Turn P w K tg (Itl K a) [it] it (fun i h => h.IsListIter it a i) where
 mem := by simp
 obj := fun i h st b hb => by
  have e : b = it := by simpa using hb
  subst e
  obtain ⟨o, e, c, d⟩ := st
  exact ⟨o, e, fun v z => by rw [d] at z; cases z⟩
 keep := fun i h h' st k => st.at fun o e => k it (by simp) o e
 item := by
  intro X hP hw hK hc i pins s σ H E I hf st hg
  subst hP hw hK
  obtain ⟨xs, x, hq, hx⟩ := hg
  obtain ⟨its, rv, p, hz⟩ := I.list hq
  obtain ⟨u, hu, ru⟩ := rv.get hx
  obtain ⟨f0, f1, f2, f3, f4, f5⟩ := hf it (by simp)
  refine wpAny_pyNext_list_item st p.isList (x := u) (by simpa using hu) fun h' st' sb => ?_
  have I1 : Inv X pins σ H { s with heap := h' } := I.turned (t' := s.toks) (fun b o hb e => (sb.2 b hb).trans e) f0 f1 f3 f4 f5
  obtain ⟨o, e, c, d⟩ := id st'
  exact ⟨u, rfl, Zv5 (s := { s with heap := h' }) e c d (by decide) ⟨x, H, I1, ru, ⟨rfl, fun ys hy => by rw [I.list_inj hy hq]; exact hx⟩, st', fun b hb => (hf b hb).1⟩⟩
 done := by
  intro X hP hw hK hc i pins s σ H E I hf st hg
  subst hP hw hK
  obtain ⟨xs, hq, hx⟩ := hg
  obtain ⟨its, rv, p, hz⟩ := I.list hq
  obtain ⟨f0, f1, f2, f3, f4, f5⟩ := hf it (by simp)
  have hl := rv.length
  exact wpAny_pyNext_list_end (I.ok.hd hc) st p.isList (by simp; omega) fun h' eb => ⟨rfl, I.turned (t' := s.toks) (fun b o hb e => eb b o hb e) f0 f1 f3 f4 f5⟩
 self := fun _ _ _ _ _ st h => wpAny_pyIter_listiter st h
theorem Zny {P : Program} {w : World} {K : PySem.W.Frag} {tg : Expr} (a it : Addr) : Turn P w K tg (Itt K a) [it] it (fun i h => h.IsTupleIter it a i) where
 mem := by simp
 obj := fun i h st b hb => by
  have e : b = it := by simpa using hb
  subst e
  obtain ⟨o, e, c, d⟩ := st
  exact ⟨o, e, fun v z => by rw [d] at z; cases z⟩
 keep := fun i h h' st k => st.at fun o e => k it (by simp) o e
 item := by
  intro X hP hw hK hc i pins s σ H E I hf st hg
  subst hP hw hK
  obtain ⟨xs, x, hq, hx⟩ := hg
  obtain ⟨its, rv, p, hz⟩ := I.tuple hq
  obtain ⟨u, hu, ru⟩ := rv.get hx
  obtain ⟨f0, f1, f2, f3, f4, f5⟩ := hf it (by simp)
  refine wpAny_pyNext_tuple_item st (show s.heap.IsTuple a its.toArray from p) (x := u) (by simpa using hu) fun h' st' sb => ?_
  have I1 : Inv X pins σ H { s with heap := h' } := I.turned (t' := s.toks) (fun b o hb e => (sb.2 b hb).trans e) f0 f1 f3 f4 f5
  obtain ⟨o, e, c, d⟩ := id st'
  exact ⟨u, rfl, Zv5 (s := { s with heap := h' }) e c d (by decide) ⟨x, H, I1, ru, ⟨rfl, fun ys hy => by rw [I.tuple_inj hy hq]; exact hx⟩, st', fun b hb => (hf b hb).1⟩⟩
 done := by
  intro X hP hw hK hc i pins s σ H E I hf st hg
  subst hP hw hK
  obtain ⟨xs, hq, hx⟩ := hg
  obtain ⟨its, rv, p, hz⟩ := I.tuple hq
  obtain ⟨f0, f1, f2, f3, f4, f5⟩ := hf it (by simp)
  have hl := rv.length
  exact wpAny_pyNext_tuple_end (I.ok.hd hc) st (show s.heap.IsTuple a its.toArray from p) (by simp; omega) fun h' eb => ⟨rfl, I.turned (t' := s.toks) (fun b o hb e => eb b o hb e) f0 f1 f3 f4 f5⟩
 self := fun _ _ _ _ _ st h => wpAny_pyIter_tupleiter st h
theorem Zn6 {P : Program} {w : World} {K : PySem.W.Frag} {tg : Expr} (it : Addr) (lo : Int) (n : Nat) : Turn P w K tg (Itr lo n) [it] it (fun i h => IsRangeIter h it (lo + (i : Nat) * 1) ((n : Int) - (i : Nat)) 1) where
 mem := by simp
 obj := fun i h st b hb => by
  have e : b = it := by simpa using hb
  subst e
  exact ⟨_, st, fun v z => by
   have z' : Data.fields _ = Data.cell v := z
   cases z'⟩
 keep := fun i h h' st k => k it (by simp) _ st
 item := by
  intro X hP hw hK hc i pins s σ H E I hf st hg
  subst hP hw hK
  obtain ⟨f0, f1, f2, f3, f4, f5⟩ := hf it (by simp)
  have W := Walks.range (prog := X.prog) (w := X.w) (I.ok.hd hc) it lo 1 n
  refine W.item i s _ _ hg st fun v h' tk hv st' kk => ?_
  obtain ⟨t, rfl⟩ := hv
  have I1 : Inv X pins σ H { s with heap := h', toks := tk } := I.turned (fun b o hb e => kk b o (by simpa using hb) e) f0 f1 f3 f4 f5
  refine ⟨_, rfl, Zv5 (s := { s with heap := h', toks := tk }) (n := "range_iterator") st' rfl rfl (by decide) ⟨.int (lo + i), H, I1, ⟨t, ?_⟩, ⟨rfl, rfl⟩, st', fun b hb => (hf b hb).1⟩⟩
  rw [Int.mul_one]
 done := by
  intro X hP hw hK hc i pins s σ H E I hf st hg
  subst hP hw hK
  obtain ⟨f0, f1, f2, f3, f4, f5⟩ := hf it (by simp)
  exact wpAny_pyNext_range_end (I.ok.hd hc) st (by have : n ≤ i := hg; omega) fun h' eb => ⟨rfl, I.turned (t' := s.toks) (fun b o hb e => eb b o hb e) f0 f1 f3 f4 f5⟩
 self := fun _ _ _ _ _ st h => wpAny_pyIter_rangeiter st h
section
variable {X : Cx} {tg : Expr}
theorem Ztw {pins : List (Addr × Obj)} {σ : St} {H : Hp} {s : Shared} {R : It -> Hp -> Prop} {E : Value -> Shared -> Prop} {lo hi : Int} {t u v : Tok} {tk : Nat} (I : Inv X pins σ H s) (h1 : -(2 ^ 62) ≤ lo) (h2 : lo < 2 ^ 62) (h3 : -(2 ^ 62) ≤ hi) (h4 : hi < 2 ^ 62)
  (q : R (Itr lo (hi - lo).toNat) H) : wpAny (model X.prog X.w) X.A (pyIter (.ref s.heap.objs.size)) (PIE X pins σ tg R) E { s with heap := s.heap.push { cls := .type "range", data := .fields #[.int lo t, .int hi u, .int 1 v] }, toks := tk } := by
 refine wpAny_pyIter_range (IsRange.new ..) (small_one h1 h2 h3 h4) ?_
 have I1 : Inv X pins σ H { s with heap := s.heap.push { cls := .type "range", data := .fields #[.int lo t, .int hi u, .int 1 v] }, toks := tk } := I.kept fun b o e => Heap.get?_push_of_some _ e
 refine ⟨(s.heap.push { cls := .type "range", data := .fields #[.int lo t, .int hi u, .int 1 v] }).objs.size, [(s.heap.push { cls := .type "range", data := .fields #[.int lo t, .int hi u, .int 1 v] }).objs.size], _, _, H, rfl,
  I1.kept (t' := tk) fun b o e => Heap.get?_push_of_some _ e, Zn6 _ lo (hi - lo).toNat, ?_, fun b hb => ?_, q⟩
 ·have e1 : lo + ((0 : Nat) : Int) * 1 = lo := by simp
  have e2 : (((hi - lo).toNat : Nat) : Int) - ((0 : Nat) : Int) = Builtin.Range.rangeSize lo hi 1 := by rw [rangeSize_one]; split <;> omega
  show IsRangeIter _ _ (lo + ((0 : Nat) : Int) * 1) ((((hi - lo).toNat : Nat) : Int) - ((0 : Nat) : Int)) 1
  rw [e1, e2]
  exact Heap.get?_push_size _ rfl
 ·have e : b = (s.heap.push { cls := .type "range", data := .fields #[.int lo t, .int hi u, .int 1 v] }).objs.size := by simpa using hb
  subst e
  exact I1.fpOk (Nat.le_refl _) (I1.hok.fresh (Nat.le_refl _))
noncomputable def iRng1 (ta : TA) : TI := fun σ H R => ta σ H fun vs H1 => ∃ j : Int, vs = [.int j] ∧ -(2 ^ 62) ≤ j ∧ j < 2 ^ 62 ∧ R (Itr 0 j.toNat) H1
theorem Zp1 {a : Expr} {ta : TA} {p pos : Pos} (hg : Gl X "range") (hm : X.mg "range" = none) (ha : PA X [a] ta) (hs : starEach [a] X.env = [(false, eval a X.env)] := by rfl) : PI X tg (.Call (.Name "range" p) [a] [] pos) (iRng1 ta) := by
 intro pins s σ H R I h
 refine Call_ (Zey I hg hm boot_range (PyProof.Rows.callWith_type1 (thn (ha pos pins s σ H _ I h) fun us s1 ⟨vs, H1, I1, r1, q1⟩ => ?_) hs rfl))
 obtain ⟨j, e, q1, q2, q⟩ := q1
 subst e
 cases r1 with
 | cons r rr =>
  cases rr
  obtain ⟨t, rfl⟩ := r
  exact call_range_1 (Ztw I1 (by omega) (by omega) q1 q2 (by simpa using q))
noncomputable def tFor (wi : TI) (g : TG) (tb : TS) : TS := fun D σ H => wi σ H fun J H1 => ∃ W : Nat -> Nat -> St -> Hp -> Prop, (∃ m, W 0 m σ H1) ∧ ∀ i m σ H, W i m σ H →
 (J.stop i H ∧ D.nx σ H) ∨ (J.go i H ∧ ∃ N : St -> Hp -> Prop, (∀ σ' H', N σ' H' -> ∃ m', m' < m ∧ W (i + 1) m' σ' H') ∧ ∀ x H', J.yld i H x H' -> g x σ H' fun σ2 H2 => tb { D with nx := N, ct := N, bk := D.nx } σ2 H2)
noncomputable def Zk5 (fp : List Addr) (h : Heap) : List (Addr × Obj) := fp.filterMap fun b => (h.get? b).map fun o => (b, o)
theorem Zep {fp : List Addr} {h : Heap} {b : Addr} {o : Obj} (hb : b ∈ fp) (e : h.get? b = some o) : (b, o) ∈ Zk5 fp h := List.mem_filterMap.mpr ⟨b, hb, by rw [e]; rfl⟩
theorem Zrk {fp : List Addr} {h : Heap} {p : Addr × Obj} (hp : p ∈ Zk5 fp h) : p.1 ∈ fp ∧ h.get? p.1 = some p.2 := by
 obtain ⟨b, hb, e⟩ := List.mem_filterMap.mp hp
 cases q : h.get? b with
 | none => rw [q] at e; cases e
 | some o =>
  rw [q] at e
  have e' : (b, o) = p := Option.some.inj e
  subst e'
  exact ⟨hb, q⟩
theorem Inv.pinned {pins : List (Addr × Obj)} {σ : St} {H : Hp} {s : Shared} {fp : List Addr} (I : Inv X pins σ H s) (hf : ∀ b ∈ fp, Zqs X pins H b) (ho : ∀ b ∈ fp, ∃ o, s.heap.get? b = some o ∧ ∀ v, o.data ≠ .cell v) : Inv X (pins ++ Zk5 fp s.heap) σ H s :=
 I.pins_of fun p hp => (List.mem_append.mp hp).elim (fun z => I.pin p (List.mem_append_right _ z)) fun z => by
  obtain ⟨hb, e⟩ := Zrk z
  obtain ⟨f0, f1, f2, _⟩ := hf p.1 hb
  obtain ⟨o, e', d⟩ := ho p.1 hb
  rw [e] at e'; cases e'
  exact ⟨e, f0, f1, f2, d⟩
theorem Inv.unpinned {pins pl : List (Addr × Obj)} {σ : St} {H : Hp} {s : Shared} (I : Inv X (pins ++ pl) σ H s) : Inv X pins σ H s := I.pins_of fun p hp => I.pin p (List.mem_append_right _ (List.mem_append_left _ hp))
theorem Zui {iter : Expr} {body : List Stmt} {wi : TI} {g : TG} {tb : TS} {pos : Pos} (hp : PassesOwn (model X.prog X.w) X.A X.env X.xe) (hc : X.calm = true) (hi : PI X tg iter wi) (hg : PG X tg g) (hb : PSs X body tb)
  (hs : ∀ x, foldedSetIterable iter X.env x = pure x := by intro _; rfl) : PS X (.For tg iter body [] pos) (tFor wi g tb) := by
 intro pins s σ H D I h
 refine wpAny_For (thn (hi pins s σ H _ I h) fun v s1 h1 => thn h1 fun itv s2 h2 => ?_) hs
 obtain ⟨it, fp, tn, J, H2, e, I2, T, st2, f2, W, ⟨m0, w0⟩, turn⟩ := h2
 subst e
 -- what stays true of the iterator's objects through the loop
 have stat : ∀ {H' : Hp}, (∀ b ∈ fp, H' b = none) -> ∀ b ∈ fp, Zqs X pins H' b := fun hn b hb => ⟨hn b hb, (f2 b hb).2⟩
 refine codeAny_forLoop_any (fun n s' => ∃ i σ' H', Inv X pins σ' H' s' ∧ tn i s'.heap ∧ (∀ b ∈ fp, H' b = none) ∧ W i n σ' H') ?_ m0 ⟨0, σ, H2, I2, st2, fun b hb => (f2 b hb).1, w0⟩
 rintro n s3 ⟨i, σ3, H3, I3, st3, fr3, w3⟩
 rcases turn i n σ3 H3 w3 with ⟨stop, qn⟩ | ⟨go, N, hN, step⟩
 ·refine wpAny_passesOwn hp (thn (T.done X rfl rfl rfl hc i pins s3 σ3 H3 X.xe I3 (stat fr3) st3 stop) fun r s4 zz => ?_)
  obtain ⟨hr, I4⟩ := zz
  subst hr
  exact wpAny_execs_nil ⟨σ3, H3, I4, qn⟩
 ·refine wpAny_passesOwn hp (thn (T.item X rfl rfl rfl hc i pins s3 σ3 H3 X.xe I3 (stat fr3) st3 go) fun r s4 zz => ?_)
  obtain ⟨u, hr, h4⟩ := zz
  subst hr
  refine wpAny_passesOwn hp (thn h4 fun _ s5 zz => ?_)
  obtain ⟨x, H5, I5, r5, y5, st5, fr5⟩ := zz
  have I5' := I5.pinned (stat fr5) (T.obj _ _ st5)
  refine wpAny_passesOwn hp (thn (hg _ s5 σ3 H5 x u _ I5' r5 (step x H5 y5)) fun _ s6 zz => ?_)
  obtain ⟨σ6, H6, I6, q6⟩ := zz
  refine wpAny_passesOwn hp (thn (hb _ s6 σ6 H6 _ I6 q6) fun f s7 q7 => ?_)
  have again : ∀ {σ7 : St} {H7 : Hp}, Inv X (pins ++ Zk5 fp s5.heap) σ7 H7 s7 -> N σ7 H7 -> ∃ m, m < n ∧ ∃ i σ' H', Inv X pins σ' H' s7 ∧ tn i s7.heap ∧ (∀ b ∈ fp, H' b = none) ∧ W i m σ' H' := fun {σ7 H7} I7 n7 => by
   obtain ⟨m', hm, w7⟩ := hN σ7 H7 n7
   refine ⟨m', hm, i + 1, σ7, H7, I7.unpinned, T.keep _ _ _ st5 fun b hb o e => (I7.pin (b, o) (List.mem_append_right _ (List.mem_append_right _ (Zep hb e)))).1, fun b hb => ?_, w7⟩
   obtain ⟨o, e, d⟩ := T.obj _ _ st5 b hb
   exact (I7.pin (b, o) (List.mem_append_right _ (List.mem_append_right _ (Zep hb e)))).2.1
  cases f with
  | next => obtain ⟨σ7, H7, I7, n7⟩ := q7; exact again I7 n7
  | cont => obtain ⟨σ7, H7, I7, n7⟩ := q7; exact again I7 n7
  | brk => obtain ⟨σ7, H7, I7, q7⟩ := q7; exact ⟨σ7, H7, I7.unpinned, q7⟩
  | ret v => obtain ⟨x7, σ7, H7, I7, r7, q7⟩ := q7; exact ⟨x7, σ7, H7, I7.unpinned, r7, q7⟩
end
noncomputable abbrev R2 := V -> V -> Hp -> VK -> Prop
noncomputable def OpR (X : Cx) (f : Value -> Value -> Sem Value) (r : R2) : Prop :=
 ∀ (pins : List (Addr × Obj)) (s : Shared) (σ : St) (H : Hp) (x y : V) (v u : Value) (Q : VK), Inv X pins σ H s -> Zb2 x v -> Zb2 y u -> r x y H Q →
  wpAny (model X.prog X.w) X.A (f v u) (EP X pins σ Q) X.xe s
noncomputable def UnR (X : Cx) (f : Value -> Sem Value) (r : V -> Hp -> VK -> Prop) : Prop :=
 ∀ (pins : List (Addr × Obj)) (s : Shared) (σ : St) (H : Hp) (x : V) (v : Value) (Q : VK), Inv X pins σ H s -> Zb2 x v -> r x H Q →
  wpAny (model X.prog X.w) X.A (f v) (EP X pins σ Q) X.xe s
noncomputable def Zf1 (X : Cx) (f : Value) (r : List V -> Hp -> VK -> Prop) : Prop :=
 ∀ (pins : List (Addr × Obj)) (s : Shared) (σ : St) (H : Hp) (xs : List V) (us : List Value) (Q : VK), Inv X pins σ H s -> Zbt xs us -> r xs H Q →
  wpAny (model X.prog X.w) X.A (call f us) (EP X pins σ Q) X.xe s
noncomputable def TruR (X : Cx) (r : V -> Hp -> (Bool -> Hp -> Prop) -> Prop) : Prop :=
 ∀ (pins : List (Addr × Obj)) (s : Shared) (σ : St) (H : Hp) (x : V) (v : Value) (Q : Bool -> Hp -> Prop), Inv X pins σ H s -> Zb2 x v -> r x H Q →
  wpAny (model X.prog X.w) X.A (truthy v) (TP X pins σ Q) X.xe s
noncomputable def tOp (r : R2) (ta tb : TE) : TE := fun σ H Q => ta σ H fun x H1 => tb σ H1 fun y H2 => r x y H2 Q
noncomputable def tUn (r : V -> Hp -> VK -> Prop) (ta : TE) : TE := fun σ H Q => ta σ H fun x H1 => r x H1 Q
noncomputable def rI (C : Int -> Int -> Prop) (g : Int -> Int -> V) : R2 := fun x y H Q => ∃ i j, x = .int i ∧ y = .int j ∧ C i j ∧ Q (g i j) H
noncomputable def rI0 (g : Int -> Int -> V) : R2 := fun x y H Q => ∃ i j, x = .int i ∧ y = .int j ∧ Q (g i j) H
noncomputable def rU (g : Int -> V) : V -> Hp -> VK -> Prop := fun x H Q => ∃ i, x = .int i ∧ Q (g i) H
section
variable {X : Cx} {a b c : Expr} {ta tb tc : TE} {pos : Pos}
theorem binT (ha : PE X a ta) (hb : PE X b tb) {pins : List (Addr × Obj)} {s : Shared} {σ : St} {H : Hp} {R : V -> V -> Hp -> Prop} (I : Inv X pins σ H s)
  (h : ta σ H fun x H1 => tb σ H1 fun y H2 => R x y H2) {Q : Value -> Shared -> Prop} {f : Value -> Value -> Sem Value}
  (hf : ∀ v u s2 x y H2, Inv X pins σ H2 s2 -> Zb2 x v -> Zb2 y u -> R x y H2 -> wpAny (model X.prog X.w) X.A (f v u) Q X.xe s2) :
  wpAny (model X.prog X.w) X.A (eval a X.env) (fun v s₁ => wpAny (model X.prog X.w) X.A (eval b X.env) (fun u s₂ => wpAny (model X.prog X.w) X.A (f v u) Q X.xe s₂) X.xe s₁) X.xe s := by
 refine thn (ha pins s σ H _ I h) fun v s1 zz => ?_
 obtain ⟨x, H1, I1, r1, q1⟩ := zz
 refine thn (hb pins s1 σ H1 _ I1 q1) fun u s2 zz => ?_
 obtain ⟨y, H2, I2, r2, q2⟩ := zz
 exact hf v u s2 x y H2 I2 r1 r2 q2
theorem Zz8 {op : Operator} {r : R2} (ho : OpR X (binaryOp op) r) (ha : PE X a ta) (hb : PE X b tb) : PE X (.BinOp a op b pos) (tOp r ta tb) := by
 intro pins s σ H Q I h
 exact wpAny_BinOp (binT ha hb I h fun v u s2 x y H2 I2 rx ry q => ho pins s2 σ H2 x y v u Q I2 rx ry q)
theorem pe_un {op : UnaryOp} {r : V -> Hp -> VK -> Prop} (ho : UnR X (unaryOp op) r) (ha : PE X a ta) : PE X (.UnaryOp op a pos) (tUn r ta) := by
 intro pins s σ H Q I h
 exact UnaryOp_ (thn (ha pins s σ H _ I h) fun v s1 ⟨x, H1, I1, r1, q1⟩ => ho pins s1 σ H1 x v Q I1 r1 q1)
theorem opI {f : Value -> Value -> Sem Value} {C : Int -> Int -> Prop} {g : Int -> Int -> Int}
  (rule : ∀ (i j : Int) (t u : Tok) (s : Shared) (Q : Value -> Shared -> Prop) (E : Value -> Shared -> Prop), C i j -> Q (.int (g i j) s.toks) { s with toks := s.toks + 1 } -> wpAny (model X.prog X.w) X.A (f (.int i t) (.int j u)) Q E s) :
  OpR X f (rI C fun i j => .int (g i j)) := by
 intro pins s σ H x y v u Q I rx ry h
 obtain ⟨i, j, rfl, rfl, hc, q⟩ := h
 obtain ⟨t, rfl⟩ := rx
 obtain ⟨t', rfl⟩ := ry
 exact rule i j t t' s _ _ hc ⟨.int (g i j), H, I.tok _, ⟨_, rfl⟩, q⟩
theorem opI0 {f : Value -> Value -> Sem Value} {g : Int -> Int -> Int}
  (rule : ∀ (i j : Int) (t u : Tok) (s : Shared) (Q : Value -> Shared -> Prop) (E : Value -> Shared -> Prop), Q (.int (g i j) s.toks) { s with toks := s.toks + 1 } -> wpAny (model X.prog X.w) X.A (f (.int i t) (.int j u)) Q E s) :
  OpR X f (rI0 fun i j => .int (g i j)) := by
 intro pins s σ H x y v u Q I rx ry h
 obtain ⟨i, j, rfl, rfl, q⟩ := h
 obtain ⟨t, rfl⟩ := rx
 obtain ⟨t', rfl⟩ := ry
 exact rule i j t t' s _ _ ⟨.int (g i j), H, I.tok _, ⟨_, rfl⟩, q⟩
theorem opB0 {f : Value -> Value -> Sem Value} {g : Int -> Int -> Bool}
  (rule : ∀ (i j : Int) (t u : Tok) (s : Shared) (Q : Value -> Shared -> Prop) (E : Value -> Shared -> Prop), Q (.bool (g i j)) s -> wpAny (model X.prog X.w) X.A (f (.int i t) (.int j u)) Q E s) :
  OpR X f (rI0 fun i j => .bl (g i j)) := by
 intro pins s σ H x y v u Q I rx ry h
 obtain ⟨i, j, rfl, rfl, q⟩ := h
 obtain ⟨t, rfl⟩ := rx
 obtain ⟨t', rfl⟩ := ry
 exact rule i j t t' s _ _ ⟨.bl (g i j), H, I, rfl, q⟩
noncomputable def Zy9 (i j : Int) : Prop := 0 < j ∧ j < 1073741824
noncomputable def Zys (i j : Int) : Prop := 0 ≤ j ∧ j ≤ 1000000 ∧ i.natAbs < 2 ^ 64
noncomputable def Zud (i j : Int) : Prop := (-(2 ^ 64) < i ∧ i < 2 ^ 64) ∨ (-(2 ^ 64) < j ∧ j < 2 ^ 64)
theorem Zud.ok {i j : Int} (h : Zud i j) : IntMulOk i j := by
 rcases h with ⟨h1, h2⟩ | ⟨h1, h2⟩
 ·exact .of_left (intBits_le_64 h1 h2)
 ·exact .of_right (intBits_le_64 h1 h2)
theorem Zzr : OpR X (binaryOp .Add) (rI0 fun i j => .int (i + j)) := opI0 fun _ _ _ _ _ _ _ q => add_int q
theorem Ybb : OpR X (binaryOp .Sub) (rI0 fun i j => .int (i - j)) := opI0 fun _ _ _ _ _ _ _ q => sub_int q
theorem Yat : OpR X (binaryOp .Mult) (rI Zud fun i j => .int (i * j)) := opI fun _ _ _ _ _ _ _ hc q => mul_int q hc.ok
theorem Zwu : OpR X (binaryOp .FloorDiv) (rI Zy9 fun i j => .int (i / j)) := opI fun i j _ _ _ _ _ hc q => by
 have h1 : (0 : Int) < j := hc.1
 have h2 : j < 1073741824 := hc.2
 exact floordiv_int (by omega) (by rw [Int.fdiv_eq_ediv_of_nonneg i (by omega)]; exact q) (.inl (PyProof.noPylong_small (by omega)))
theorem Zyj : OpR X (binaryOp .Mod) (rI (fun _ j => 0 < j) fun i j => .int (i % j)) := opI fun i j _ _ _ _ _ hc q => by
 have h1 : (0 : Int) < j := hc
 exact mod_int' (by omega) (by rw [Int.fmod_eq_emod_of_nonneg i (by omega)]; exact q)
theorem Zyq : OpR X (binaryOp .Pow) (rI Zys fun i j => .int (i ^ j.toNat)) := opI fun _ _ _ _ _ _ _ hc q => pow_int_small hc.1 hc.2.1 hc.2.2 q
theorem unI {f : Value -> Sem Value} {g : Int -> Int}
  (rule : ∀ (i : Int) (t : Tok) (s : Shared) (Q : Value -> Shared -> Prop) (E : Value -> Shared -> Prop), Q (.int (g i) s.toks) { s with toks := s.toks + 1 } -> wpAny (model X.prog X.w) X.A (f (.int i t)) Q E s) :
  UnR X f (rU fun i => .int (g i)) := by
 intro pins s σ H x v Q I rx h
 obtain ⟨i, rfl, q⟩ := h
 obtain ⟨t, rfl⟩ := rx
 exact rule i t s _ _ ⟨.int (g i), H, I.tok _, ⟨_, rfl⟩, q⟩
theorem Yan : UnR X (unaryOp .USub) (rU fun i => .int (-i)) := unI fun _ _ _ _ _ q => neg_int q
end
section
variable {X : Cx} {a b c : Expr} {ta tb tc : TE} {pos : Pos}
theorem op_lt : OpR X (compareOp .Lt) (rI0 fun i j => .bl (decide (i < j))) := opB0 fun _ _ _ _ _ _ _ q => lt_int q
theorem op_le : OpR X (compareOp .LtE) (rI0 fun i j => .bl (decide (i ≤ j))) := opB0 fun _ _ _ _ _ _ _ q => le_int q
theorem op_gt : OpR X (compareOp .Gt) (rI0 fun i j => .bl (decide (j < i))) := opB0 fun _ _ _ _ _ _ _ q => gt_int q
theorem op_ge : OpR X (compareOp .GtE) (rI0 fun i j => .bl (decide (j ≤ i))) := opB0 fun _ _ _ _ _ _ _ q => ge_int q
theorem Zaq (b : Expr) {op : CmpOp} (h : op ≠ .In := by decide) (h2 : op ≠ .NotIn := by decide) : behindInMarks op b = false := by
 have e1 : (op == CmpOp.In) = false := by cases op <;> first | rfl | exact absurd rfl h
 have e2 : (op == CmpOp.NotIn) = false := by cases op <;> first | rfl | exact absurd rfl h2
 cases b <;> simp [behindInMarks, e1, e2]
theorem Zwj {op : CmpOp} {r : R2} (ho : OpR X (compareOp op) r) (ha : PE X a ta) (hb : PE X b tb) (hm : behindInMarks op b = false) : PE X (.Compare a [op] [b] pos) (tOp r ta tb) := by
 intro pins s σ H Q I h
 exact wpAny_Compare1 (binT ha hb I h fun v u s2 x y H2 I2 rx ry q => ho pins s2 σ H2 x y v u Q I2 rx ry q) hm
noncomputable def tTest (t : TE) : TT := fun σ H Q => t σ H fun x H' => ∃ k, x = .bl k ∧ Q k H'
theorem Zxv {op : CmpOp} {r : R2} (ho : OpR X (compareOp op) r) (ha : PE X a ta) (hb : PE X b tb) (hm : behindInMarks op b = false) : PT X (.Compare a [op] [b] pos) (tTest (tOp r ta tb)) := by
 intro pins s σ H Q I h
 refine wpAny_isTrue_Compare1 (thn (ha pins s σ H _ I h) fun v s1 ⟨x, H1, I1, r1, q1⟩ => thn (hb pins s1 σ H1 _ I1 q1) fun u s2 ⟨y, H2, I2, r2, q2⟩ =>
  thn (ho pins s2 σ H2 x y v u _ I2 r1 r2 q2) fun c s3 ⟨z, H3, I3, r3, k, e, q3⟩ => ?_) hm
 subst e
 cases r3
 exact wpAny_truthy_bool ⟨H3, I3, q3⟩
noncomputable def Zuh (r r' : R2) (ta tb tc : TE) : TE := fun σ H Q => ta σ H fun x H1 => tb σ H1 fun y H2 => r x y H2 fun z H3 => ∃ k, z = .bl k ∧
 (if k = true then tc σ H3 fun w' H4 => r' y w' H4 Q else Q (.bl false) H3)
theorem Ztc {op op' : CmpOp} {r r' : R2} (ho : OpR X (compareOp op) r) (ho' : OpR X (compareOp op') r') (ha : PE X a ta) (hb : PE X b tb) (hc : PE X c tc)
  (hm : lastMarks [op, op'] [b, c] = false := by with_unfolding_all rfl) : PE X (.Compare a [op, op'] [b, c] pos) (Zuh r r' ta tb tc) := by
 intro pins s σ H Q I h
 refine Compare_chain (thn (ha pins s σ H _ I h) fun v s1 ⟨x, H1, I1, r1, q1⟩ => chain_link (thn (hb pins s1 σ H1 _ I1 q1) fun u s2 ⟨y, H2, I2, r2, q2⟩ =>
  thn (ho pins s2 σ H2 x y v u _ I2 r1 r2 q2) fun d s3 ⟨z, H3, I3, r3, k, e, q3⟩ => ?_)) hm
 subst e
 cases r3
 refine wpAny_truthy_bool ?_
 cases k with
 | false => exact ite_ff ⟨.bl false, H3, I3, rfl, q3⟩
 | true => exact ite_tt (chain_last (thn (hc pins s3 σ H3 _ I3 q3) fun w' s4 ⟨z', H4, I4, r4, q4⟩ => ho' pins s4 σ H4 y z' u w' Q I4 r2 r4 q4))
noncomputable def TruV (K : PySem.W.Frag) (x : V) (H : Hp) (k : Bool) : Prop :=
 match x with
 | .non => k = false
 | .bl b => k = b
 | .int i => k = (i != 0)
 | .str y => y.length ≤ sizeLine ∧ k = ((y.length : Int) != 0)
 | .byt y => y.size ≤ sizeLine ∧ k = ((y.size : Int) != 0)
 | .ref p => (∃ xs, SqL K H p xs ∧ k = !xs.isEmpty) ∨ (∃ xs, SqT K H p xs ∧ k = !xs.isEmpty) ∨ ∃ kvs, H p = some (.dK kvs) ∧ k = !kvs.isEmpty
 | _ => False
theorem Znn {κ : Type} {kvs : List (κ × V)} {vs : List (κ × Value)} (r : KV kvs vs) : (!vs.isEmpty) = !kvs.isEmpty := by
 cases r <;> rfl
theorem Zio {xs : List V} {its : List Value} (r : Zbt xs its) : (!its.toArray.isEmpty) = !xs.isEmpty := by
 cases r <;> simp
theorem Zkv : (sizeLine : Nat) < 2 ^ 63 := by rw [sizeLine_eq]; decide
theorem Zzb : TruR X (fun x H Q => ∃ k, TruV X.K x H k ∧ Q k H) := by
 intro pins s σ H x v Q I rx h
 obtain ⟨k, e, q⟩ := h
 have hl := Zkv
 have hs : sizeLine = 16777216 := sizeLine_eq
 cases x with
 | non =>
  cases rx
  have e' : k = false := e
  subst e'
  exact truthy_none ⟨H, I, q⟩
 | bl b =>
  cases rx
  have e' : k = b := e
  subst e'
  exact wpAny_truthy_bool ⟨H, I, q⟩
 | int i =>
  obtain ⟨t, rfl⟩ := rx
  have e' : k = (i != 0) := e
  subst e'
  exact PySem.P.truthy_int ⟨H, I, q⟩
 | str y =>
  obtain ⟨t, rfl⟩ := rx
  obtain ⟨hy, e'⟩ : y.length ≤ sizeLine ∧ k = ((y.length : Int) != 0) := e
  subst e'
  exact PySem.P.truthy_str (by omega) ⟨H, I.tok _, q⟩
 | byt y =>
  obtain ⟨t, rfl⟩ := rx
  obtain ⟨hy, e'⟩ : y.size ≤ sizeLine ∧ k = ((y.size : Int) != 0) := e
  subst e'
  exact PySem.W.truthy_bytes (by omega) ⟨H, I.tok _, q⟩
 | ref p =>
  cases rx
  have e' : (∃ xs, SqL X.K H p xs ∧ k = !xs.isEmpty) ∨ (∃ xs, SqT X.K H p xs ∧ k = !xs.isEmpty) ∨ ∃ kvs, H p = some (.dK kvs) ∧ k = !kvs.isEmpty := e
  rcases e' with ⟨xs, hx, e'⟩ | ⟨xs, hx, e'⟩ | ⟨kvs, hx, e'⟩
  ·subst e'
   obtain ⟨its, r, pl, hz⟩ := I.list hx
   have hlen := r.length
   exact wpAny_truthy_list pl.isList (by simp only [List.size_toArray]; omega) ⟨H, I.tok _, by rw [Zio r]; exact q⟩
  ·subst e'
   obtain ⟨its, r, pl, hz⟩ := I.tuple hx
   have hlen := r.length
   exact truthy_tuple pl (by simp only [List.size_toArray]; omega) ⟨H, I.tok _, by rw [Zio r]; exact q⟩
  ·subst e'
   obtain ⟨hz, hS, vs, r, m⟩ : kvs.length ≤ sizeLine ∧ (p == sysModules) = false ∧ ∃ vs, KV kvs vs ∧ s.heap.DictOf (Zmb X.prog X.w) p vs := I.hok p _ hx
   have hlen : kvs.length = vs.length := Paired.length r
   exact wpAny_truthy_dict hS m (by omega) ⟨H, I.tok _, by rw [Znn r]; exact q⟩
 | _ => exact (show False from e).elim
theorem Zst (ha : PE X a ta) (he : ∀ whole, isTrue a X.env whole = (do let v ← whole; standAt a.pos; holding [v] (truthy v))) :
  PT X a (fun σ H Q => ta σ H fun x H' => ∃ k, TruV X.K x H' k ∧ Q k H') := by
 intro pins s σ H Q I h
 exact isTrue_plain (thn (ha pins s σ H _ I h) fun v s1 ⟨x, H1, I1, r1, q1⟩ => Zzb pins s1 σ H1 x v Q I1 r1 q1) (he _)
theorem Zns : OpR X (binaryOp .Add) (fun x y H Q => ∃ i j, x = .str i ∧ y = .str j ∧ i.length + j.length ≤ sizeLine ∧ Q (.str (i ++ j)) H) := by
 intro pins s σ H x y v u Q I rx ry h
 obtain ⟨i, j, rfl, rfl, hz, q⟩ := h
 obtain ⟨t, rfl⟩ := rx
 obtain ⟨t', rfl⟩ := ry
 exact add_str (fun t' tk => ⟨.str (i ++ j), H, I.tok _, ⟨_, rfl⟩, q⟩) hz
theorem Zgp {x : V} {us : List Value} (r : Zbt [x] us) : ∃ u, us = [u] ∧ Zb2 x u := by
 cases r with
 | cons r1 r2 => cases r2; exact ⟨_, rfl, r1⟩
theorem Zn7 {x y : V} {us : List Value} (r : Zbt [x, y] us) : ∃ u w', us = [u, w'] ∧ Zb2 x u ∧ Zb2 y w' := by
 cases r with
 | cons r1 r2 =>
  cases r2 with
  | cons r3 r4 => cases r4; exact ⟨_, _, rfl, r1, r3⟩
theorem Zs7 : Zf1 X (.builtin "abs") (fun xs H Q => ∃ i, xs = [.int i] ∧ Q (.int (if i < 0 then -i else i)) H) := by
 intro pins s σ H xs us Q I r h
 obtain ⟨i, rfl, q⟩ := h
 obtain ⟨u, rfl, t, rfl⟩ := Zgp r
 exact call_abs_int fun u tk => ⟨.int (if i < 0 then -i else i), H, I.tok _, ⟨_, rfl⟩, q⟩
theorem Zql (hc : X.calm = true) : Zf1 X (.builtin "max") (fun xs H Q => ∃ i j, xs = [.int i, .int j] ∧ Q (.int (if j > i then j else i)) H) := by
 intro pins s σ H xs us Q I r h
 obtain ⟨i, j, rfl, q⟩ := h
 obtain ⟨u, w', rfl, ⟨t, rfl⟩, ⟨t', rfl⟩⟩ := Zn7 r
 refine max_two_ints (I.ok.hd hc) fun h' tk k => ⟨_, H, I.kept k, ?_, q⟩
 by_cases hj : j > i
 ·rw [if_pos hj, if_pos hj]; exact ⟨_, rfl⟩
 ·rw [if_neg hj, if_neg hj]; exact ⟨_, rfl⟩
theorem Zkg : Zf1 X (.type "int") (fun xs H Q => (∃ i, xs = [.int i] ∧ Q (.int i) H) ∨ ∃ k, xs = [.bl k] ∧ Q (.int (if k then 1 else 0)) H) := by
 intro pins s σ H xs us Q I r h
 rcases h with ⟨i, rfl, q⟩ | ⟨k, rfl, q⟩
 ·obtain ⟨u, rfl, t, rfl⟩ := Zgp r
  exact call_int_int ⟨.int i, H, I, ⟨_, rfl⟩, q⟩
 ·obtain ⟨u, rfl, r1⟩ := Zgp r
  cases r1
  exact call_int_bool ⟨.int (if k then 1 else 0), H, I.tok _, ⟨_, rfl⟩, q⟩
end
theorem Zj4 {h : Heap} {dx : Addr} {mA : Str -> Option Value} (n : h.Ns1 dx mA) : ∃ od, h.get? dx = some od ∧ ∀ name, PySem.W.lookIn name od = some (mA name) := by
 obtain ⟨o, es, ep, ho, hd, hk, _, hm⟩ := n
 refine ⟨o, ho, fun name => ?_⟩
 have e := hm name
 unfold nsFind findBy at e
 rw [← Array.find?_toList] at e
 unfold PySem.W.lookIn
 rw [hd]
 dsimp only
 split
 ·rename_i y q
  rw [q] at e
  exact congrArg some e
 ·rename_i q
  rw [q] at e
  have a : es.toList.any (·.refKey) = false := by
   rw [List.any_eq_false]
   intro y hy
   obtain ⟨z, t, hkey⟩ := hk y (Array.mem_toList_iff.mp hy)
   simp [DictEntry.refKey, hkey]
  have a' : ¬ es.toList.any (·.refKey) = true := by rw [a]; exact Bool.false_ne_true
  rw [if_neg a']
  exact congrArg some e
section
variable {X : Cx} {pins : List (Addr × Obj)} {σ : St} {H : Hp} {s : Shared} {a C dx : Addr} {fs : List (Str × V)} {f : Str} {v : V} {A : Around} {E : Value -> Shared -> Prop}
theorem Zov {prog : Program} {w : World} {env : Env} {e : Expr} {f : Str} {pos : Pos} {s : Shared} {Q : Value -> Shared -> Prop} (hb : attributeBase e f env (eval e env) = eval e env)
  (h : wpAny (model prog w) A (eval e env) (fun o s₁ => wpAny (model prog w) A (getAttr o f true) Q E s₁) E s) : wpAny (model prog w) A (eval (.Attribute e f pos) env) Q E s :=
 Attribute_any_ h (by rw [arm_eval_Attribute, hb])
end
structure Room (k : Nat) (A : Around) : Prop where
 hd : A.handled = none
 dp : A.depth + 3 * k + 5 < recursionLimit
 un : A.units + 16 * k + 200 < cLine
 gd : A.guards = some []
theorem Room.mono {j k : Nat} {A : Around} (r : Room k A) (h : j ≤ k) : Room j A := ⟨r.hd, by have := r.dp; omega, by have := r.un; omega, r.gd⟩
theorem Room.deeper {k : Nat} {A : Around} (r : Room (k + 1) A) (env : Env) : Room k (A.deeper env) :=
 ⟨r.hd, by have := r.dp; show A.depth + 1 + 3 * k + 5 < _; omega, by have := r.un; show A.units + 3 + 16 * k + 200 < _; omega, r.gd⟩
theorem Znv {A : Around} {C : Addr} {us : List Value} {kw : List (Str × Value)} : (A.under (.builtin "type.__call__" ⟨.ref C :: us, kw⟩)).depth = A.depth + 1 := by
 first | rfl | simp [Around.under, Code.weight, Code.isCreation, Code.isGuard, Code.isCaller, Code.frames, Code.isFrame, guardIds]
theorem Zno {A : Around} {C : Addr} {us : List Value} {kw : List (Str × Value)} : (A.under (.builtin "type.__call__" ⟨.ref C :: us, kw⟩)).units = A.units + 1 := by
 first | rfl | simp [Around.under, Code.cUnits, Code.frames, Code.isFrame]
theorem Room.make {k : Nat} {A : Around} (r : Room (k + 1) A) (C : Addr) (us : List Value) (kw : List (Str × Value)) : Room k (A.under (.builtin "type.__call__" ⟨.ref C :: us, kw⟩)) :=
 ⟨r.hd, by have := r.dp; rw [Znv]; omega, by have := r.un; rw [Zno]; omega, by first | exact r.gd | (simpa [Around.under, Code.guards, Code.isGuard, guardIds, pushGuards] using r.gd)⟩
theorem Room.depth {k : Nat} {A : Around} (r : Room k A) : A.depth < recursionLimit := by have := r.dp; omega
theorem Room.units {k : Nat} {A : Around} (r : Room k A) : A.units + 64 < cLine := by have := r.un; omega
noncomputable def tNil : TA := fun _ H Q => Q [] H
noncomputable def tCons (ta : TE) (tr : TA) : TA := fun σ H Q => ta σ H fun x H1 => tr σ H1 fun xs H2 => Q (x :: xs) H2
section
variable {X : Cx} {e : Expr} {es : List Expr} {te : TE} {t : TA} {pos : Pos}
theorem Zh6 : PA X [] tNil := fun _ _ _ _ H Q I h => Calls.spliced_nil ⟨[], H, I, .nil, h⟩
theorem Zb4 (ha : PE X e te) (hr : PA X es t) (hs : starEach (e :: es) X.env = (false, eval e X.env) :: starEach es X.env := by rfl) : PA X (e :: es) (tCons te t) := by
 intro pos pins s σ H Q I h
 rw [hs]
 show wpAny _ _ (spliced ((false, eval e X.env) :: backTo pos (starEach es X.env))) _ _ s
 refine Calls.spliced_cons (thn (ha pins s σ H _ I h) fun u s1 zz => ?_)
 obtain ⟨x, H1, I1, r1, q1⟩ := zz
 exact thn (hr pos pins s1 σ H1 _ I1 q1) fun us s2 ⟨xs, H2, I2, r2, q2⟩ => ⟨x :: xs, H2, I2, .cons r1 r2, q2⟩
noncomputable def tTup (t : TA) : TE := fun σ H Q => t σ H fun xs H1 => xs.length ≤ sizeLine ∧ ∀ p, H1 p = none -> Q (.ref p) (upd H1 p (.tup xs))
noncomputable def tLst (t : TA) : TE := fun σ H Q => t σ H fun xs H1 => xs.length ≤ sizeLine ∧ ∀ p, H1 p = none -> Q (.ref p) (upd H1 p (.lst xs))
theorem Zu6 {x1} (h : PA X es t) : PE X (.Tuple es x1 pos) (tTup t) := by
 intro pins s σ H Q I hq
 refine wpAny_Tuple_spliced (thn (h pos pins s σ H _ I hq) fun us s1 ⟨xs, H1, I1, r, z, q⟩ => ⟨by rw [← r.length]; exact z, ?_⟩)
 have hf : H1 s1.heap.objs.size = none := I1.hok.fresh (Nat.le_refl _)
 refine ⟨.ref s1.heap.objs.size, upd H1 s1.heap.objs.size (.tup xs), I1.laid (t' := s1.toks) (fun b u e => Heap.get?_push_of_some _ e) (Nat.le_refl _) ?_, rfl, q _ hf⟩
 exact ⟨z, us, r, ⟨_, Heap.get?_push_size _ rfl, rfl, ⟨_, rfl⟩, rfl⟩⟩
theorem Zt6 (h : PA X es t) : PE X (.List es pos) (tLst t) := by
 intro pins s σ H Q I hq
 refine wpAny_List_spliced (thn (h pos pins s σ H _ I hq) fun us s1 ⟨xs, H1, I1, r, z, q⟩ => ⟨by rw [← r.length]; exact z, ?_⟩)
 have hf : H1 s1.heap.objs.size = none := I1.hok.fresh (Nat.le_refl _)
 refine ⟨.ref s1.heap.objs.size, upd H1 s1.heap.objs.size (.lst xs), I1.laid (t' := s1.toks) (fun b u e => Heap.get?_push_of_some _ e) (Nat.le_refl _) ?_, rfl, q _ hf⟩
 exact ⟨z, us, 0, r, Heap.get?_push_size _ rfl⟩
end
noncomputable abbrev Sp := List V -> Hp -> VK -> XK -> Prop
noncomputable abbrev CXT := List Env -> Hp -> Shared -> XK -> Value -> Shared -> Prop
structure Env0 (P : Program) (w : World) (K : PySem.W.Frag) (mg : Str -> Option Value) (base : Heap) (A : Around) (outer : List Env) (s : Shared) (H : Hp) : Prop where
 frames : A.frames = some outer
 mod : Mod K mg base
 bs : ∀ b o, base.get? b = some o -> s.heap.get? b = some o ∧ H b = none
 bsz : base.objs.size ≤ s.heap.objs.size
 funs : s.heap.FunFrames base outer
 frf : ∀ b ∈ frs outer, H b = none
 hok : HOk P w H s.heap
 bare : AllBare s.gens
noncomputable def CE (outer : List Env) (P : Program) (w : World) (H : Hp) (s : Shared) (Q : VK) (u : Value) (s' : Shared) : Prop :=
 ∃ v H', s'.os = s.os ∧ AllBare s'.gens ∧ Un (frs outer) [] H H' s.heap s'.heap ∧ HOk P w H' s'.heap ∧ Zb2 v u ∧ Q v H'
noncomputable def CR (CX : CXT) (outer : List Env) (P : Program) (w : World) (H : Hp) (s : Shared) (Q : VK) (E : XK) (r : Result) (s' : Shared) : Prop :=
 match r with
 | .ok (.ret u) => CE outer P w H s Q u s'
 | .ok _ => False
 | .error e => CX outer H s E e s'
structure FnOk (P : Program) (w : World) (K : PySem.W.Frag) (mg : Str -> Option Value) (base : Heap) (CX : CXT) (k : Nat) (f : Addr) (fd : FuncData) (ps : List Str) (sp : Sp) : Prop where
 len : ∀ vs H Q E, sp vs H Q E -> vs.length = ps.length
 run : ∀ (A : Around) (outer : List Env) (s : Shared) (H : Hp) (args : Args) (us : List Value) (vs : List V) (Q : VK) (E : XK), Room k A -> Env0 P w K mg base A outer s H -> BindsTo s fd args (ps.zip us) -> Zbt vs us -> sp vs H Q E →
  codeAny (model P w) A (.call (.ref f) args) (CR CX outer P w H s Q E) s
theorem Env0.make {P : Program} {w : World} {K : PySem.W.Frag} {mg : Str -> Option Value} {base : Heap} {A : Around} {outer : List Env} {s : Shared} {H : Hp} (e : Env0 P w K mg base A outer s H) (C : Addr) (us : List Value) (kw : List (Str × Value)) :
  Env0 P w K mg base (A.under (.builtin "type.__call__" ⟨.ref C :: us, kw⟩)) outer s H := ⟨by first | exact e.frames | (simpa [Around.under, Code.envs, Code.isFrame, pushEnvs] using e.frames), e.mod, e.bs, e.bsz, e.funs, e.frf, e.hok, e.bare⟩
section
variable {X : Cx} {pins : List (Addr × Obj)} {σ : St} {H : Hp} {s s' : Shared}
theorem Inv.env0 (I : Inv X pins σ H s) : Env0 X.prog X.w X.K X.mg X.base X.A X.stack s H :=
 ⟨I.ok.frames, I.ok.mod, I.bs, Nat.le_trans I.ok.bsz I.sz, I.stack, I.stkFree, I.hok, I.bare⟩
theorem Inv.after {Q : VK} {u : Value} (I : Inv X pins σ H s) (h : CE X.stack X.prog X.w H s Q u s') : EP X pins σ Q u s' := by
 obtain ⟨v, H', os, bare, un, hok, r, q⟩ := h
 obtain ⟨hh, g, d, t, os'⟩ := s'
 obtain rfl : os' = s.os := os
 exact ⟨v, H', I.call (h' := hh) (g' := g) (d' := d) (t' := t) (ch := []) un hok bare (fun b z => absurd z (by simp)), r, q⟩
end
noncomputable def Yao (sp : Sp) (dvs : List V) (E : XK) (t : TA) : TE := fun σ H Q => t σ H fun vs H1 => sp (vs ++ dvs) H1 Q E
noncomputable def Ze2 (K : PySem.W.Frag) (fd : FuncData) (ps : List Str) (ds : List Value) : Prop :=
 ∀ (s : Shared) (us : List Value), K.In s.heap -> (us ++ ds).length = ps.length -> BindsTo s fd ⟨us, []⟩ (ps.zip (us ++ ds))
theorem Ze2.all {K : PySem.W.Frag} {fd : FuncData} {ps : List Str} (h : ∀ us : List Value, us.length = ps.length -> bindArgs fd ⟨us, []⟩ = pure (ps.zip us)) : Ze2 K fd ps [] := fun s us _ hl => by
 rw [List.append_nil] at hl ⊢
 exact .of_eq (h us hl)
noncomputable def Zqt (CX : CXT) (X : Cx) (E : XK) : Prop := ∀ (pins : List (Addr × Obj)) (σ : St) (H : Hp) (s : Shared) (e : Value) (s' : Shared), Inv X pins σ H s -> CX X.stack H s E e s' -> X.xe e s'
section
variable {X : Cx} {CX : CXT} {k : Nat} {f C : Addr} {fd : FuncData} {ps : List Str} {sp : Sp} {dvs : List V} {ds : List Value} {E : XK} {x m : Str} {p pos apos : Pos} {e o : Expr} {es : List Expr} {ta : TE} {t : TA}
theorem Zuo {pins : List (Addr × Obj)} {σ : St} {H : Hp} {s : Shared} {Q : VK} {us : List Value} {vs : List V} (F : FnOk X.prog X.w X.K X.mg X.base CX k f fd ps sp) (hr : Room k X.A) (hb : Ze2 X.K fd ps ds) (hd : Zbt dvs ds) (hx : Zqt CX X E)
  (I : Inv X pins σ H s) (r : Zbt vs us) (h : sp (vs ++ dvs) H Q E) : wpAny (model X.prog X.w) X.A (call (.ref f) us) (EP X pins σ Q) X.xe s := by
 have r2 : Zbt (vs ++ dvs) (us ++ ds) := r.append hd
 have hl : (us ++ ds).length = ps.length := by rw [← r2.length]; exact F.len _ _ _ _ h
 refine wpAny_call (codeAny_mono (F.run X.A X.stack s H ⟨us, []⟩ (us ++ ds) (vs ++ dvs) Q E hr I.env0 (hb s us I.kIn hl) r2 h) fun r s' hq => ?_)
 cases r with
 | error e => exact hx pins σ H s e s' I hq
 | ok fl =>
  cases fl with
  | ret u => exact I.after hq
  | next => exact False.elim hq
  | brk => exact False.elim hq
  | cont => exact False.elim hq
theorem Zxg (F : FnOk X.prog X.w X.K X.mg X.base CX k f fd ps sp) (hr : Room k X.A) (hg : Gl X x) (hm : X.mg x = some (.ref f)) (hk : PySem.W.keepIn X.K (.ref f) = true) (hb : Ze2 X.K fd ps ds) (hd : Zbt dvs ds) (hx : Zqt CX X E)
  (ha : PA X (e :: es) t) (hdb : (x == ("__debug__" : Str)) = false := by decide) (he : starEach (e :: es) X.env = (false, eval e X.env) :: starEach es X.env := by rfl) (hpl : (backTo pos (starEach es X.env)).any (·.1) = false := by rfl) :
  PE X (.Call (.Name x p) (e :: es) [] pos) (Yao sp dvs E t) := by
 intro pins s σ H Q I h
 refine wpAny_Call_Name_kw (Zdc I hg hm ?_ hdb)
 refine PySem.W.callWith_K (h₀ := X.base) I.ok.mod.kin hk (thn (ha pos pins s σ H _ I h) fun us s1 ⟨vs, H1, I1, r, q⟩ => ⟨I1.kIn, ?_⟩) he hpl
 exact Zuo F hr hb hd hx I1 r q
end
structure FnScope (N P : List Str) (sc : Scope) : Prop where
 kind : sc.kind = .function
 co : sc.isCoroutine = false
 gen : sc.isGenerator = false
 nd : N.Nodup
 pre : N.take P.length = P
 par : ∀ x ∈ P, sc.names.lookup x = some .local ∨ sc.names.lookup x = some .cell
 nofree : ∀ y ∈ sc.names, y.2 ≠ .free
theorem Zkw {kindOf : Str -> Option NameKind} {x : Str} : ∀ {binds : List (Str × Value)} {m : Str -> Option Value}, (∀ v, (x, v) ∉ binds) -> bindL kindOf binds m x = m x
 | [], _, _ => rfl
 | (n, v) :: r, m, h => by
  unfold bindL
  rw [Zkw fun w hw => h w (List.mem_cons_of_mem _ hw)]
  split
  ·have : x ≠ n := by rintro rfl; exact h v List.mem_cons_self
   simp [this]
  ·rfl
theorem Zk3 {kindOf : Str -> Option NameKind} {x : Str} : ∀ {binds : List (Str × Value)} {m : Str -> Option Value}, (∀ v, (x, v) ∉ binds) -> bindC kindOf binds m x = m x
 | [], _, _ => rfl
 | (n, v) :: r, m, h => by
  unfold bindC
  rw [Zk3 fun w hw => h w (List.mem_cons_of_mem _ hw)]
  split
  ·rfl
  ·have : x ≠ n := by rintro rfl; exact h v List.mem_cons_self
   simp [this]
theorem Zkp {kindOf : Str -> Option NameKind} {x : Str} {v : Value} : ∀ {P : List Str} {vs : List Value} {i : Nat} {m : Str -> Option Value}, P.Nodup -> P[i]? = some x -> vs[i]? = some v -> kindOf x = some .local →
  bindL kindOf (P.zip vs) m x = some v
 | [], _, _, _, _, h, _, _ => by simp at h
 | _ :: _, [], _, _, _, _, h, _ => by simp at h
 | p :: P, w :: vs, 0, m, nd, h1, h2, hk => by
  simp at h1 h2; subst h1; subst h2
  show bindL kindOf ((p, w) :: P.zip vs) m p = _
  unfold bindL
  rw [Zkw fun v hv => (List.nodup_cons.mp nd).1 (List.of_mem_zip hv).1, if_pos hk]
  simp
 | p :: P, w :: vs, i + 1, m, nd, h1, h2, hk => by
  show bindL kindOf ((p, w) :: P.zip vs) m x = _
  unfold bindL
  exact Zkp (i := i) (List.nodup_cons.mp nd).2 (by simpa using h1) (by simpa using h2) hk
theorem Zkq {kindOf : Str -> Option NameKind} {x : Str} {v : Value} : ∀ {P : List Str} {vs : List Value} {i : Nat} {m : Str -> Option Value}, P.Nodup -> P[i]? = some x -> vs[i]? = some v -> kindOf x ≠ some .local →
  bindC kindOf (P.zip vs) m x = some v
 | [], _, _, _, _, h, _, _ => by simp at h
 | _ :: _, [], _, _, _, _, h, _ => by simp at h
 | p :: P, w :: vs, 0, m, nd, h1, h2, hk => by
  simp at h1 h2; subst h1; subst h2
  show bindC kindOf ((p, w) :: P.zip vs) m p = _
  unfold bindC
  rw [Zk3 fun v hv => (List.nodup_cons.mp nd).1 (List.of_mem_zip hv).1, if_neg hk]
  simp
 | p :: P, w :: vs, i + 1, m, nd, h1, h2, hk => by
  show bindC kindOf ((p, w) :: P.zip vs) m x = _
  unfold bindC
  exact Zkq (i := i) (List.nodup_cons.mp nd).2 (by simpa using h1) (by simpa using h2) hk
noncomputable def start (N : List Str) (vs : List V) : St := vs.map some ++ List.replicate (N.length - vs.length) none
noncomputable def Zfe (CX : CXT) (P : Program) (w : World) (K : PySem.W.Frag) (mg : Str -> Option Value) (base : Heap) (N : List Str) (qual : Str) (scope : Scope) (f : Addr) (cd : Value) (A : Around) (outer : List Env) (s : Shared) (H : Hp) (E : XK) : Cx where
 prog := P
 w := w
 K := K
 mg := mg
 base := base
 A := A.deeper (envOfC qual scope s.heap.objs.size f cd)
 N := N
 s₀ := s
 H₀ := H
 env := envOfC qual scope s.heap.objs.size f cd
 outer := outer
 stack := envOfC qual scope s.heap.objs.size f cd :: outer
 ex := []
 calm := true
 fn := fun _ => true
 pn := []
 xe := fun e s' => wpAny (model P w) (A.deeper (envOfC qual scope s.heap.objs.size f cd)) (leaving (envOfC qual scope s.heap.objs.size f cd) e) (fun _ s'' => CX outer H s E e s'') (fun e' s'' => CX outer H s E e' s'') s'
theorem Zjg {sc : Scope} {n : Nat} {x : Str} (h : sc.names.lookup x = some .cell) : ∃ c, (cellsFrom n sc.names []).lookup x = some c := by
 have q := PySem.W.cellsFrom_some sc.names n [] (.inl h)
 exact Option.isSome_iff_exists.mp q
theorem Zp6 {CX : CXT} {P : Program} {w : World} {K : PySem.W.Frag} {mg : Str -> Option Value} {base : Heap} {N ps : List Str} {qual : Str} {scope : Scope} {f : Addr} {cd : Value} {A : Around} {outer : List Env} {s s1 : Shared} {H : Hp} {E : XK} {us : List Value} {vs : List V}
  (S : FnScope N ps scope) (hd : A.handled = none) (e0 : Env0 P w K mg base A outer s H) (hl : vs.length = ps.length) (r : Zbt vs us)
  (x : InCallC s s.heap.objs.size (bindL (envOfC qual scope s.heap.objs.size f cd).kindOf (ps.zip us) fun _ => none) (cellsFrom (s.heap.objs.size + 1) scope.names []) (bindC (envOfC qual scope s.heap.objs.size f cd).kindOf (ps.zip us) fun _ => none) s1) :
  Inv (Zfe CX P w K mg base N qual scope f cd A outer s H E) [] (start N vs) H s1 := by
 have hpl : ps.length ≤ N.length := by have := congrArg List.length S.pre; rw [List.length_take] at this; omega
 obtain ⟨h1, tk, rfl, hk⟩ := x.done
 have noA : ∀ b : Addr, b ∉ (Zfe CX P w K mg base N qual scope f cd A outer s H E).ex := fun b z => absurd (show b ∈ ([] : List Addr) from z) (by simp)
 refine ⟨⟨e0.mod, S.kind, rfl, rfl, Nat.le_refl _, fun y z c h1 h2 => ?_, fun y hy => ?_, fun y c _ h => ?_, fun _ => hd, Around.frames_deeper e0.frames, .inr ⟨rfl, rfl⟩, fun b z => absurd z (noA b), e0.bs, e0.bsz, fun b _ _ => noA b, fun b z => absurd z (noA b), e0.funs, e0.frf⟩,
  rfl, e0.bare, Un.kept hk, ⟨_, x.toInCall.ns, fun i y v h1 h2 h3 => ?_⟩, fun y c h => ⟨_, x.cell y c h⟩, e0.hok.fresh (Nat.le_refl _), fun y c h => ?_, fun p hp => absurd (show p ∈ ([] : List (Addr × Obj)) from hp) (by simp), e0.hok.kept hk, ?_⟩
 ·exact name_of_addr x.apart (PySem.mem_of_lookup h1) (PySem.mem_of_lookup h2)
 ·have hy : scope.names.lookup y = some .cell ∨ scope.names.lookup y = some .free := hy
  rcases hy with hy | hy
  ·exact Zjg hy
  ·exact absurd rfl (S.nofree _ (PySem.mem_of_lookup hy))
 ·exact Nat.le_of_lt (x.above y c (PySem.mem_of_lookup h))
 ·have hi : i < vs.length := by
   unfold start at h2
   by_cases hi : i < vs.length
   ·exact hi
   ·rw [List.getElem?_append_right (by simpa using hi)] at h2
    rw [List.getElem?_replicate] at h2
    split at h2 <;> cases h2
  have ha : vs[i]? = some v := by
   unfold start at h2
   rw [List.getElem?_append_left (by simpa using hi), List.getElem?_map] at h2
   cases e : vs[i]? with
   | none => rw [e] at h2; cases h2
   | some a => rw [e] at h2; cases h2; rfl
  obtain ⟨u, hu, rv⟩ := r.get ha
  have hp : ps[i]? = some y := by
   rw [← S.pre, List.getElem?_take_of_lt (by omega)]; exact h1
  have ndP : ps.Nodup := by rw [← S.pre]; exact S.nd.sublist (List.take_sublist _ _)
  refine ⟨u, rv, ?_⟩
  rcases S.par y (List.mem_of_getElem? hp) with k | k
  ·exact .inl ⟨k, Zkp ndP hp hu k⟩
  ·obtain ⟨c, e⟩ := Zjg (n := s.heap.objs.size + 1) k
   refine .inr ⟨.inl k, c, e, ?_⟩
   have q := x.cell y c e
   rw [Zkq ndP hp hu (by show scope.names.lookup y ≠ _; rw [k]; decide)] at q
   exact q
 ·exact e0.hok.fresh (Nat.le_of_lt (x.above y c (PySem.mem_of_lookup h)))
 ·unfold start
  show _ = N.length
  rw [List.length_append, List.length_map, List.length_replicate]
  omega
theorem Ya6 {CX : CXT} {P : Program} {w : World} {K : PySem.W.Frag} {mg : Str -> Option Value} {base : Heap} {k : Nat} {f : Addr} {name qual : Str} {params : Arguments} {body : List Stmt} {scope : Scope} {dV kV doc pm cdv ct oc : Value} {an od : Option Addr}
  {osl : Array (Option Value)} {N ps : List Str} {sp : Sp} (lk : K.lookup f = some ⟨oc, od, .func (PySem.W.fnOf name qual params body scope dV kV doc pm an cdv ct), osl⟩) (hcd : PySem.W.codeIn K cdv qual = true) (S : FnScope N ps scope)
  (len : ∀ vs H Q E, sp vs H Q E -> vs.length = ps.length)
  (hbody : ∀ (A : Around) (outer : List Env) (s : Shared) (H : Hp) (vs : List V) (Q : VK) (E : XK), Room k (A.deeper (envOfC qual scope s.heap.objs.size f cdv)) -> sp vs H Q E →
   ∃ t, PSs (Zfe CX P w K mg base N qual scope f cdv A outer s H E) body t ∧ t { nx := fun _ H' => Q .non H', rt := Q } (start N vs) H) :
  FnOk P w K mg base CX (k + 1) f (PySem.W.fnOf name qual params body scope dV kV doc pm an cdv ct) ps sp := by
 refine ⟨len, fun A outer s H args us vs Q E hr e0 hb r hsp => ?_⟩
 have hl := len _ _ _ _ hsp
 have KX : K.In s.heap := e0.mod.kin.keeps fun b o e => (e0.bs b o e).1
 have lim : s.heap.NoLimit := e0.mod.nolimit.keeps fun b o e => (e0.bs b o e).1
 have hkind : ∀ y ∈ ps.zip us, scope.names.lookup y.1 = some .local ∨ (scope.names.lookup y.1 = some .cell ∧ ((cellsFrom (s.heap.objs.size + 1) scope.names []).lookup y.1).isSome = true) := fun ⟨n, v⟩ hy => by
  rcases S.par n (List.of_mem_zip hy).1 with q | q
  ·exact .inl q
  ·exact .inr ⟨q, PySem.W.cellsFrom_some _ _ _ (.inl q)⟩
 refine codeAny_call_function hr.depth (KX _ _ lk) rfl S.co S.gen rfl (PySem.W.codeRec_of KX hcd) (hb _ _ _ _ ?_)
 refine wpAny_newFunctionEnv_cells S.kind hkind fun env he s1 x => ?_
 subst he
 refine ⟨lim.keeps x.toInCall.keep, codeAny_func ?_⟩
 obtain ⟨t, ht, hq⟩ := hbody A outer s H vs Q E (hr.deeper _) hsp
 have I : Inv (Zfe CX P w K mg base N qual scope f cdv A outer s H E) [] (start N vs) H s1 := Zp6 S hr.hd e0 hl r x
 refine wpAny_mono (ht [] s1 (start N vs) H _ I hq) (fun fl s' hs => ?_) fun e s' hs => hs
 have fin : ∀ {σ' : St} {H' : Hp} {v : V} {u : Value}, Inv (Zfe CX P w K mg base N qual scope f cdv A outer s H E) [] σ' H' s' -> Zb2 v u -> Q v H' -> CE outer P w H s Q u s' :=
  fun {σ' H' v u} J rv q => ⟨v, H', J.os, J.bare, J.base, J.hok, rv, q⟩
 cases fl with
 | ret u =>
  obtain ⟨v, σ', H', J, rv, q⟩ := hs
  exact fin J rv q
 | next =>
  obtain ⟨σ', H', J, q⟩ := hs
  exact fin (v := V.non) (u := Value.none) J rfl q
 | brk =>
  obtain ⟨_, _, _, q⟩ := hs
  exact False.elim q
 | cont =>
  obtain ⟨_, _, _, q⟩ := hs
  exact False.elim q
section
variable {X : Cx} {x : Str} {p pos : Pos} {e : Expr} {es : List Expr} {t : TA} {id T : String} {r : List V -> Hp -> VK -> Prop}
noncomputable def tCB (r : List V -> Hp -> VK -> Prop) (t : TA) : TE := fun σ H Q => t σ H fun vs H1 => r vs H1 Q
theorem Zfu (hc : Zf1 X (.builtin id) r) (hg : Gl X x) (hm : X.mg x = none) (hv : bootBuiltins x = some (.builtin id)) (ha : PA X (e :: es) t) (hn : x ≠ "__name__" := by decide) (hdb : (x == ("__debug__" : Str)) = false := by decide)
  (he : starEach (e :: es) X.env = (false, eval e X.env) :: starEach es X.env := by rfl) (hpl : (backTo pos (starEach es X.env)).any (·.1) = false := by rfl) : PE X (.Call (.Name x p) (e :: es) [] pos) (tCB r t) := by
 intro pins s σ H Q I h
 refine wpAny_Call_Name_kw (Zey I hg hm hv ?_ hn hdb)
 exact PyProof.Rows.callWith_builtin1 (thn (ha pos pins s σ H _ I h) fun us s1 ⟨vs, H1, I1, r1, q1⟩ => hc pins s1 σ H1 vs us Q I1 r1 q1) he hpl
theorem Zq6 (hc : Zf1 X (.type T) r) (hg : Gl X x) (hm : X.mg x = none) (hv : bootBuiltins x = some (.type T)) (ha : PA X (e :: es) t) (hn : x ≠ "__name__" := by decide) (hdb : (x == ("__debug__" : Str)) = false := by decide)
  (he : starEach (e :: es) X.env = (false, eval e X.env) :: starEach es X.env := by rfl) (hpl : (backTo pos (starEach es X.env)).any (·.1) = false := by rfl) : PE X (.Call (.Name x p) (e :: es) [] pos) (tCB r t) := by
 intro pins s σ H Q I h
 refine wpAny_Call_Name_kw (Zey I hg hm hv ?_ hn hdb)
 exact PyProof.Rows.callWith_type1 (thn (ha pos pins s σ H _ I h) fun us s1 ⟨vs, H1, I1, r1, q1⟩ => hc pins s1 σ H1 vs us Q I1 r1 q1) he hpl
end
end L2
namespace HT
open PySem PyProof.Rows
section
variable {prog : Program} {w : World} {A : Around} {E : Value -> Shared -> Prop} {s : Shared}
theorem cat_tup {t b : Addr} {vs ws : List Value} {Q : Value -> Shared -> Prop} (ht : IsTup s.heap t vs.toArray) (hb : IsTup s.heap b ws.toArray) (hv : vs ≠ [])
  (h1 : ws = [] → Q (.ref t) s) (h2 : ws ≠ [] → Q (.ref s.heap.objs.size) { s with heap := s.heap.push { cls := .type "tuple", data := .seq (vs ++ ws).toArray } })
  (hsz : vs.length + ws.length ≤ sizeLine) : wpAny (model prog w) A (binaryOp .Add (.ref t) (.ref b)) Q E s := by
 obtain ⟨⟨cls, dd, data, sl⟩, ho, hc, n, hd⟩ := id ht
 obtain ⟨⟨cls2, dd2, data2, sl2⟩, ho2, hc2, n2, hd2⟩ := id hb
 simp only at hc hd hc2 hd2
 subst hc hd hc2 hd2
 have e : vs.toArray ++ ws.toArray = (vs ++ ws).toArray := by simp
 by_cases hw : ws = []
 ·exact concat_meets ⟨_, ho, rfl⟩ ⟨_, ho2, rfl⟩ noFill_tuple_add seq_tuple_add PySem.F.slot_tuple_add PySem.F.entry_tuple_add (PySem.F.args_tuple_add_2 _ _)
   (tuple_addW1 t b vs.toArray ws.toArray n n2 dd dd2 sl sl2 (by simpa using hv) (by simp [hw])) ⟨ho, ho2, h1 hw⟩
 ·refine concat_meets ⟨_, ho, rfl⟩ ⟨_, ho2, rfl⟩ noFill_tuple_add seq_tuple_add PySem.F.slot_tuple_add PySem.F.entry_tuple_add (PySem.F.args_tuple_add_2 _ _)
   (tuple_addW2 t b vs.toArray ws.toArray n n2 dd dd2 sl sl2 (by simpa using hv) (by simpa using hw) (by rw [List.size_toArray, List.size_toArray]; exact hsz)) ⟨ho, ho2, ?_⟩
  rw [e]
  exact h2 hw
noncomputable def sIx (n d : Nat) : Option Int -> Nat
 | none => d
 | some v => if v < 0 then (v + (n : Int)).toNat else min v.toNat n
theorem Yba (n d : Nat) (hd : d ≤ n) (o : Option Int) : sIx n d o ≤ n := by
 cases o with
 | none => exact hd
 | some v =>
  show (if v < 0 then (v + (n : Int)).toNat else min v.toNat n) ≤ n
  by_cases hv : v < 0
  ·rw [if_pos hv]; omega
  ·rw [if_neg hv]; exact Nat.min_le_right _ _
theorem Zqj (v : Int) (n d : Nat) : (if v < 0 then max (v + (n : Int)) 0 else min v (n : Int)) = ((sIx n d (some v) : Nat) : Int) := by
 show (if v < 0 then max (v + (n : Int)) 0 else min v (n : Int)) = (((if v < 0 then (v + (n : Int)).toNat else min v.toNat n) : Nat) : Int)
 by_cases hv : v < 0
 ·simp only [if_pos hv]; omega
 ·simp only [if_neg hv]; omega
theorem Znp (lo hi : Option Int) (n : Nat) : Builtin.Slice.sliceAdjust lo hi 1 (n : Int) = (((sIx n 0 lo : Nat) : Int), ((sIx n n hi : Nat) : Int)) := by
 have h1 : ¬ ((1 : Int) < 0) := by omega
 unfold Builtin.Slice.sliceAdjust
 simp only [h1, if_false]
 refine Prod.ext ?_ ?_
 ·cases lo with
  | none => rfl
  | some v => exact Zqj v n 0
 ·cases hi with
  | none => rfl
  | some v => exact Zqj v n n
theorem Zn3 (i j : Nat) : Builtin.Slice.slicePlaces (i : Int) (j : Int) 1 = j - i := by
 unfold Builtin.Slice.slicePlaces
 have h1 : (1 : Int) > 0 := by omega
 simp only [h1, if_true, Int.ediv_one]
 split <;> omega
theorem Zi1 {v : Value} {o : Option Int} {Q : Option Int -> Shared -> Prop} (p : IsPart v o) (h : Q o s) : wpAny (model prog w) A (Builtin.Slice.slicePartIndex v) Q E s := by
 cases p with
 | none => exact slicePart_none h
 | int i t => exact slicePart_int h
theorem sliceApplied_gen {sl : Addr} {vl vu : Value} {lo hi : Option Int} {n : Nat} {Q : Int × Int × Nat -> Shared -> Prop} (hs : s.heap.IsSliceOf sl vl vu .none) (pl : IsPart vl lo) (pu : IsPart vu hi)
  (h : Q (((sIx n 0 lo : Nat) : Int), 1, sIx n n hi - sIx n 0 lo) s) : wpAny (model prog w) A (Builtin.Slice.sliceApplied (.ref sl) (pure (n : Int))) Q E s := by
 obtain ⟨os, hos, hcs, hds⟩ := id hs
 unfold Builtin.Slice.sliceApplied Builtin.Slice.sliceFields
 refine wpAny_bind (wpAny_bind (wpAny_field hos hds (x := vl) rfl (wpAny_bind (wpAny_field hos hds (x := vu) rfl (wpAny_bind (wpAny_field hos hds (x := .none) rfl (wpAny_pure ?_)))))))
 refine wpAny_bind (slicePart_none ?_)
 show wpAny _ _ (if ((1 : Int) == 0) = true then _ else _) _ _ s
 rw [if_neg (by decide)]
 refine wpAny_bind (Zi1 pl (wpAny_bind (Zi1 pu (wpAny_bind (wpAny_pure ?_)))))
 show wpAny _ _ (match Builtin.Slice.sliceAdjust lo hi 1 (n : Int) with | (lo, hi) => pure (lo, (1 : Int), Builtin.Slice.slicePlaces lo hi 1)) _ _ s
 rw [Znp lo hi n]
 show wpAny _ _ (pure (((sIx n 0 lo : Nat) : Int), (1 : Int), Builtin.Slice.slicePlaces ((sIx n 0 lo : Nat) : Int) ((sIx n n hi : Nat) : Int) 1)) _ _ s
 rw [Zn3]
 exact wpAny_pure h
theorem Ztv (xs : Array Value) (i k : Nat) : ((List.range k).filterMap fun (m : Nat) => xs[((i : Int) + (m : Int) * 1).toNat]?).toArray = ((xs.toList.drop i).take k).toArray := by
 have e : (fun (m : Nat) => xs[((i : Int) + (m : Int) * 1).toNat]?) = fun m => xs[i + m]? := by
  funext m
  have : ((i : Int) + (m : Int) * 1).toNat = i + m := by omega
  rw [this]
 rw [e]
 have := pick_run xs i k
 rw [List.filterMap_map] at this
 have e2 : ((fun x => xs[x]?) ∘ fun x => i + x) = fun m => xs[i + m]? := rfl
 rw [e2] at this
 rw [this]
theorem getItem_tuple_cut {t sl : Addr} {items : Array Value} {vl vu : Value} {lo hi : Option Int} {Q : Value -> Shared -> Prop} (ht : IsTup s.heap t items) (hs : s.heap.IsSliceOf sl vl vu .none) (pl : IsPart vl lo) (pu : IsPart vu hi)
  (hw : ¬ (sIx items.size 0 lo = 0 ∧ sIx items.size items.size hi = items.size))
  (h : Q (.ref s.heap.objs.size) { s with heap := s.heap.push { cls := .type "tuple", data := .seq ((items.toList.drop (sIx items.size 0 lo)).take (sIx items.size items.size hi - sIx items.size 0 lo)).toArray } })
  (hsz : items.size ≤ sizeLine) : wpAny (model prog w) A (getItem (.ref t) (.ref sl)) Q E s := by
 have htake : sizeOk (.seq ((items.toList.drop (sIx items.size 0 lo)).take (sIx items.size items.size hi - sIx items.size 0 lo)).toArray) := by
  show ((items.toList.drop (sIx items.size 0 lo)).take (sIx items.size items.size hi - sIx items.size 0 lo)).toArray.size ≤ sizeLine
  rw [List.size_toArray, List.length_take, List.length_drop, Array.length_toList]
  omega
 have hj : sIx items.size items.size hi ≤ items.size := Yba _ _ (Nat.le_refl _) hi
 obtain ⟨os, hos, hcs, hds⟩ := id hs
 have hTs : s.TypeIs (.ref sl) "slice" := ⟨os, hos, hcs⟩
 unfold getItem
 try with_reducible refine wpAny_holding ?_
 first | refine wpAny_bind (wpAny_pure ?_) | skip
 refine wpAny_bind (wpAny_sequenceKey ht.typeIs (by decide) ?_)
 refine wpAny_bind (wpAny_callSpecial?_slot (name := Str.ofString "__getitem__") ht.typeIs PyProof.Rows.slot_tuple_getitem
  (wpAny_call_entry PyProof.Rows.slot_tuple_getitem ht.typeIs entry_tuple_getitem ?_ (args_tuple_getitem _ _)))
 show wpAny _ _ (Builtin.Tuple.tupleItemsOf (.ref t) >>= _) _ _ s
 refine wpAny_bind (tupleItemsOf_ ht ?_)
 refine wpAny_bind (wpAny_typeOf hTs ?_)
 rw [if_pos (by decide)]
 refine wpAny_bind (sliceApplied_gen hs pl pu ?_)
 have hno : ¬ ((((sIx items.size 0 lo : Nat) : Int) == 0 && (1 : Int) == 1 && (sIx items.size items.size hi - sIx items.size 0 lo) == items.size) = true) := by
  intro q
  rw [Bool.and_eq_true, Bool.and_eq_true] at q
  have q1 : ((sIx items.size 0 lo : Nat) : Int) = 0 := eq_of_beq q.1.1
  have q2 : sIx items.size items.size hi - sIx items.size 0 lo = items.size := eq_of_beq q.2
  exact hw ⟨by omega, by omega⟩
 show wpAny _ _ (if (((sIx items.size 0 lo : Nat) : Int) == 0 && (1 : Int) == 1 && (sIx items.size items.size hi - sIx items.size 0 lo) == items.size) = true then _ else _) _ _ s
 rw [if_neg hno, Ztv]
 first
  | exact wpAny_bind (m := Builtin.Tuple.tupleExact _) (wpAny_newObj_type (wpAny_pure ⟨_, rfl, wpAny_pure h⟩) htake)
  | exact wpAny_bind (m := Builtin.Tuple.tupleExact _) (wpAny_newObj_type (wpAny_bind (wpAny_pure (wpAny_pure ⟨_, rfl, wpAny_pure h⟩))) htake)
  | exact wpAny_bind (wpAny_bind (m := Builtin.Tuple.tupleExact _) (wpAny_newObj_type (wpAny_pure (wpAny_pure ⟨_, rfl, wpAny_pure h⟩)) htake))
  | exact wpAny_bind (wpAny_bind (m := Builtin.Tuple.tupleExact _) (wpAny_newObj_type (wpAny_pure ⟨_, rfl, wpAny_pure h⟩) htake))
end
end HT
namespace L2
open PySem PySem.Spec PyProof.Rows
noncomputable abbrev TO := St -> Hp -> (Option Int -> Hp -> Prop) -> Prop
noncomputable def PO (X : Cx) (e : Option Expr) (t : TO) : Prop :=
 ∀ (pins : List (Addr × Obj)) (s : Shared) (σ : St) (H : Hp) (Q : Option Int -> Hp -> Prop), Inv X pins σ H s -> t σ H Q →
  wpAny (model X.prog X.w) X.A (evalPart e X.env) (fun u s' => ∃ o H', Inv X pins σ H' s' ∧ IsPart u o ∧ Q o H') X.xe s
noncomputable def Zwv : TO := fun _ H Q => Q none H
noncomputable def tPart (t : TE) : TO := fun σ H Q => t σ H fun x H1 => ∃ i, x = .int i ∧ Q (some i) H1
theorem Zix {ns : List Int} : ∀ {us : List Value}, Zbt (ns.map V.int) us -> IntsAre us ns := by
 induction ns with
 | nil => intro us r; rw [List.map_nil] at r; cases r; exact .nil
 | cons n ns ih =>
  intro us r
  rw [List.map_cons] at r
  cases r with
  | cons r1 r2 =>
   obtain ⟨t, e⟩ := r1
   subst e
   exact .cons n t (ih r2)
section
variable {X : Cx} {e : Expr} {te : TE} {lo hi : Option Expr} {tl th : TO} {pos p2 : Pos}
theorem Zvo : PO X none Zwv := by
 intro pins s σ H Q I h
 rw [evalPart_none]
 exact wpAny_pure ⟨none, H, I, .none, h⟩
theorem Zv6 (h : PE X e te) : PO X (some e) (tPart te) := by
 intro pins s σ H Q I hw
 rw [evalPart_some]
 refine thn (h pins s σ H _ I hw) fun u s1 zz => ?_
 obtain ⟨x, H1, I1, r1, q1⟩ := zz
 obtain ⟨i, rfl, q⟩ := q1
 obtain ⟨t, rfl⟩ := r1
 exact ⟨some i, H1, I1, .int i t, q⟩
noncomputable def SlR (X : Cx) (r : V -> Option Int -> Option Int -> Hp -> VK -> Prop) : Prop :=
 ∀ (pins : List (Addr × Obj)) (s : Shared) (σ : St) (H : Hp) (x : V) (v vl vu : Value) (lo hi : Option Int) (sl : Addr) (Q : VK), Inv X pins σ H s -> Zb2 x v -> s.heap.IsSliceOf sl vl vu .none -> IsPart vl lo -> IsPart vu hi -> r x lo hi H Q →
  ∃ T id, typeLookup (.type T) "__getitem__" = pure (some (.builtin id)) ∧ s.TypeIs v T ∧ wpAny (model X.prog X.w) X.A (getItem v (.ref sl)) (EP X pins σ Q) X.xe s
noncomputable def tSl (r : V -> Option Int -> Option Int -> Hp -> VK -> Prop) (te : TE) (tl th : TO) : TE := fun σ H Q => te σ H fun x H1 => tl σ H1 fun l H2 => th σ H2 fun u H3 => r x l u H3 Q
theorem Zs9 {r : V -> Option Int -> Option Int -> Hp -> VK -> Prop} (hr : SlR X r) (he : PE X e te) (hl : PO X lo tl) (hu : PO X hi th) : PE X (.Subscript e (.Slice lo hi none p2) pos) (tSl r te tl th) := by
 intro pins s σ H Q I h
 refine Subscript_ (thn (he pins s σ H _ I h) fun v s1 zz => ?_)
 obtain ⟨x, H1, I1, r1, q1⟩ := zz
 refine wpAny_Slice (thn (hl pins s1 σ H1 _ I1 q1) fun vl s2 ⟨l, H2, I2, pl, q2⟩ => thn (hu pins s2 σ H2 _ I2 q2) fun vu s3 zz => ?_)
 obtain ⟨u, H3, I3, pu, q3⟩ := zz
 rw [evalPart_none]
 refine wpAny_pure ?_
 have I4 : Inv X pins σ H3 { s3 with heap := s3.heap.push { cls := .type "slice", data := .fields #[vl, vu, .none] } } := I3.kept (t' := s3.toks) fun b ob q => Heap.get?_push_of_some _ q
 obtain ⟨T, id, hT, ht, hg⟩ := hr pins { s3 with heap := s3.heap.push { cls := .type "slice", data := .fields #[vl, vu, .none] } } σ H3 x v vl vu l u s3.heap.objs.size Q I4 r1 (Heap.IsSliceOf.new ..) pl pu q3
 show wpAny (model X.prog X.w) X.A (subscriptTail e (.Slice lo hi none p2) v (.ref s3.heap.objs.size)) (EP X pins σ Q) X.xe { s3 with heap := s3.heap.push { cls := .type "slice", data := .fields #[vl, vu, .none] } }
 exact tail_any (ops := [.ref s3.heap.objs.size, v]) ht hT hg (by with_unfolding_all rfl)
noncomputable def Zun (xs : List V) (lo hi : Option Int) : List V := (xs.drop (HT.sIx xs.length 0 lo)).take (HT.sIx xs.length xs.length hi - HT.sIx xs.length 0 lo)
theorem Zd0 (xs : List V) (lo hi : Option Int) : (Zun xs lo hi).length ≤ xs.length := by
 unfold Zun
 rw [List.length_take, List.length_drop]
 omega
noncomputable def rSlT (K : PySem.W.Frag) : V -> Option Int -> Option Int -> Hp -> VK -> Prop := fun x lo hi H Q => ∃ a xs, x = .ref a ∧ SqT K H a xs ∧
 ¬ (HT.sIx xs.length 0 lo = 0 ∧ HT.sIx xs.length xs.length hi = xs.length) ∧ ∀ p, H p = none -> Q (.ref p) (upd H p (.tup (Zun xs lo hi)))
theorem Yaw : SlR X (rSlT X.K) := by
 intro pins s σ H x v vl vu lo hi sl Q I rx hs pl pu h
 obtain ⟨a, xs, rfl, hx, hw, q⟩ := h
 cases rx
 obtain ⟨its, r, ht, hz⟩ := I.tuple hx
 have hlen : its.toArray.size = xs.length := by rw [List.size_toArray]; exact r.length.symm
 refine ⟨"tuple", _, PyProof.Rows.slot_tuple_getitem.lookup, ht.typeIs, ?_⟩
 refine HT.getItem_tuple_cut ht hs pl pu (by rw [hlen]; exact hw) ?_ (by rw [hlen]; exact hz)
 rw [hlen]
 refine ⟨.ref s.heap.objs.size, _, I.laid (t' := s.toks) (o := .tup (Zun xs lo hi)) (fun b ob q => Heap.get?_push_of_some _ q) (Nat.le_refl _) ?_, rfl, q _ (I.hok.fresh (Nat.le_refl _))⟩
 exact ⟨Nat.le_trans (Zd0 xs lo hi) hz, _, (r.drop (HT.sIx xs.length 0 lo)).take (HT.sIx xs.length xs.length hi - HT.sIx xs.length 0 lo), Zi4.new _ _⟩
noncomputable def rCatT (K : PySem.W.Frag) : R2 := fun x y H Q => ∃ a b xs ys, x = .ref a ∧ y = .ref b ∧ SqT K H a xs ∧ SqT K H b ys ∧ xs ≠ [] ∧ xs.length + ys.length ≤ sizeLine ∧
 (ys = [] -> Q (.ref a) H) ∧ (ys ≠ [] -> ∀ p, H p = none -> Q (.ref p) (upd H p (.tup (xs ++ ys))))
theorem Zbt.nil_iff {xs : List V} {us : List Value} (r : Zbt xs us) : us = [] ↔ xs = [] := by
 cases r with
 | nil => simp
 | cons _ _ => simp
theorem Zo6 : OpR X (binaryOp .Add) (rCatT X.K) := by
 intro pins s σ H x y v u Q I rx ry h
 obtain ⟨a, b, xs, ys, rfl, rfl, ha, hb, hx, hz, q1, q2⟩ := h
 cases rx
 cases ry
 obtain ⟨its, r1, p1, _⟩ := I.tuple ha
 obtain ⟨its2, r2, p2, _⟩ := I.tuple hb
 refine HT.cat_tup p1 p2 (fun z => hx (r1.nil_iff.mp z)) (fun z => ⟨.ref a, H, I, rfl, q1 (r2.nil_iff.mp z)⟩) (fun z => ?_) (by rw [← r1.length, ← r2.length]; exact hz)
 refine ⟨.ref s.heap.objs.size, _, I.laid (t' := s.toks) (o := .tup (xs ++ ys)) (fun b ob q => Heap.get?_push_of_some _ q) (Nat.le_refl _) ?_, rfl, q2 (fun w => z (r2.nil_iff.mpr w)) _ (I.hok.fresh (Nat.le_refl _))⟩
 exact ⟨by rw [List.length_append]; exact hz, _, r1.append r2, Zi4.new _ _⟩
end
noncomputable def ixN (n : Nat) (i : Int) : Option Nat := if 0 ≤ i then (if i < n then some i.toNat else none) else if -(n : Int) ≤ i then some (i + n).toNat else none
noncomputable def atI {α : Type} (xs : List α) (i : Int) : Option α := (ixN xs.length i).bind fun j => xs[j]?
theorem Zwn {n : Nat} {i : Int} {j : Nat} (h : ixN n i = some j) : seqIndex? i n = some j ∧ j < n ∧ -(n : Int) ≤ i ∧ i < n := by
 unfold ixN at h
 by_cases h0 : 0 ≤ i
 ·rw [if_pos h0] at h
  by_cases h1 : i < n
  ·rw [if_pos h1] at h
   have e : i.toNat = j := Option.some.inj h
   exact ⟨by rw [seqIndex_of h0 h1, e], by omega, by omega, h1⟩
  ·rw [if_neg h1] at h; cases h
 ·rw [if_neg h0] at h
  by_cases h1 : -(n : Int) ≤ i
  ·rw [if_pos h1] at h
   have e : (i + n).toNat = j := Option.some.inj h
   exact ⟨by rw [seqIndex_neg (by omega) h1, e], by omega, h1, by omega⟩
  ·rw [if_neg h1] at h; cases h
theorem Zrf {α : Type} {xs : List α} {i : Int} {v : α} (h : atI xs i = some v) : ∃ j, seqIndex? i xs.length = some j ∧ xs[j]? = some v ∧ j < xs.length ∧ -(xs.length : Int) ≤ i ∧ i < xs.length := by
 unfold atI at h
 cases e : ixN xs.length i with
 | none => rw [e] at h; cases h
 | some j =>
  rw [e] at h
  obtain ⟨h1, h2, h3, h4⟩ := Zwn e
  exact ⟨j, h1, h, h2, h3, h4⟩
theorem Zdw {α : Type} {xs : List α} {j : Nat} {v : α} (h : xs[j]? = some v) : atI xs (j : Int) = some v := by
 have hj : j < xs.length := (List.getElem?_eq_some_iff.mp h).1
 have e : ixN xs.length (j : Int) = some j := by
  unfold ixN
  rw [if_pos (by omega), if_pos (by omega)]; simp
 unfold atI; rw [e]; exact h
theorem Zsj {α : Type} (xs : List α) (v : α) : atI (xs ++ [v]) (-1) = some v := by
 have hl : (xs ++ [v]).length = xs.length + 1 := by simp
 have e : ixN (xs ++ [v]).length (-1) = some xs.length := by
  unfold ixN
  rw [hl, if_neg (by decide), if_pos (by omega)]
  congr 1
  omega
 unfold atI
 rw [e]
 show (xs ++ [v])[xs.length]? = some v
 simp
noncomputable def Zre (b : Expr) : Prop := ∀ o i, subscripted b false o i = operate [o, i] (getItem o i)
noncomputable def IxR (X : Cx) (r : R2) : Prop :=
 ∀ (value slice : Expr) (pins : List (Addr × Obj)) (s : Shared) (σ : St) (H : Hp) (x y : V) (v u : Value) (Q : VK), Inv X pins σ H s -> Zb2 x v -> Zb2 y u -> r x y H Q →
  subscripted slice false v u = operate [v, u] (getItem v u) -> wpAny (model X.prog X.w) X.A (subscriptTail value slice v u) (EP X pins σ Q) X.xe s
noncomputable def MtR (X : Cx) (id : String) (r : V -> List V -> Hp -> VK -> Prop) : Prop :=
 ∀ (pins : List (Addr × Obj)) (s : Shared) (σ : St) (H : Hp) (x : V) (xs : List V) (v : Value) (us : List Value) (Q : VK), Inv X pins σ H s -> Zb2 x v -> Zbt xs us -> r x xs H Q →
  wpAny (model X.prog X.w) X.A (call (.builtin id) (v :: us)) (EP X pins σ Q) X.xe s
section
variable {X : Cx} {a b : Expr} {ta tb : TE} {pos : Pos}
theorem pe_ix {r : R2} (hr : IxR X r) (ha : PE X a ta) (hb : PE X b tb) (hs : Zre b) : PE X (.Subscript a b pos) (tOp r ta tb) := by
 intro pins s σ H Q I h
 exact Subscript_ (binT ha hb I h fun v u s2 x y H2 I2 rx ry q => hr a b pins s2 σ H2 x y v u Q I2 rx ry q (hs _ _))
noncomputable def rIxL (K : PySem.W.Frag) : R2 := fun x y H Q => ∃ p xs i v, x = .ref p ∧ y = .int i ∧ SqL K H p xs ∧ atI xs i = some v ∧ Q v H
noncomputable def rIxT (K : PySem.W.Frag) : R2 := fun x y H Q => ∃ p xs i v, x = .ref p ∧ y = .int i ∧ SqT K H p xs ∧ atI xs i = some v ∧ Q v H
theorem Zxb : IxR X (rIxL X.K) := by
 intro value slice pins s σ H x y v u Q I rx ry h hs
 obtain ⟨p, xs, i, z, rfl, rfl, hq, he, q⟩ := h
 cases rx
 obtain ⟨t, rfl⟩ := ry
 obtain ⟨its, r, pl, hz⟩ := I.list hq
 obtain ⟨j, h1, h2, h3, h4, h5⟩ := Zrf he
 obtain ⟨w, ew, rw'⟩ := r.get h2
 have hl := r.length
 have hn := Zkv
 have fin : EP X pins σ Q w s := ⟨z, H, I, rw', q⟩
 by_cases h0 : 0 ≤ i
 ·have hj : i.toNat = j := by
   rw [seqIndex_of h0 h5] at h1
   exact Option.some.inj h1
  exact item_listR pl.isList h0 (by omega) (by rw [hj]; simpa using ew) fin hs
 ·have hj : (i + (its.toArray.size : Int)).toNat = j := by
   rw [seqIndex_neg (by omega) h4] at h1
   rw [List.size_toArray, ← hl]
   exact Option.some.inj h1
  exact subscriptTail_builtinR (x := w) pl.isList.typeIs slot_list_getitem.lookup
   (wpAny_getItem_list_neg (Q := fun r s' => r = w ∧ EP X pins σ Q r s') pl.isList (by omega) (by rw [List.size_toArray] <;> omega) (by omega) (by rw [hj]; simpa using ew) ⟨rfl, fin⟩) hs
theorem Zyw : IxR X (rIxT X.K) := by
 intro value slice pins s σ H x y v u Q I rx ry h hs
 obtain ⟨p, xs, i, z, rfl, rfl, hq, he, q⟩ := h
 cases rx
 obtain ⟨t, rfl⟩ := ry
 obtain ⟨its, r, pl, hz⟩ := I.tuple hq
 obtain ⟨j, h1, h2, h3, h4, h5⟩ := Zrf he
 obtain ⟨w, ew, rw'⟩ := r.get h2
 have hl := r.length
 have hn := Zkv
 have fin : EP X pins σ Q w s := ⟨z, H, I, rw', q⟩
 exact subscriptTail_builtinR (x := w) pl.typeIs slot_tuple_getitem.lookup
  (getItem_tuple (j := j) (Q := fun r s' => r = w ∧ EP X pins σ Q r s') pl (by omega) (by omega) (by rw [List.size_toArray, ← hl]; exact h1) (by simpa using ew) ⟨rfl, fin⟩) hs
theorem Zke (lo hi : Option Int) (n : Nat) : (sliceBounds lo hi none n).1 = ((HT.sIx n 0 lo : Nat) : Int) ∧ (sliceBounds lo hi none n).2.1 = ((HT.sIx n n hi : Nat) : Int) ∧ (sliceBounds lo hi none n).2.2 = 1 := by
 refine ⟨?_, ?_, rfl⟩
 ·cases lo with
  | none => simp [sliceBounds, HT.sIx]
  | some i =>
   simp only [sliceBounds, HT.sIx, Option.getD_none, show (1 : Int) > 0 by decide, if_true]
   by_cases h : i < 0
   ·simp only [h, if_true] <;> omega
   ·simp only [h, if_false] <;> omega
 ·cases hi with
  | none => simp [sliceBounds, HT.sIx]
  | some i =>
   simp only [sliceBounds, HT.sIx, Option.getD_none, show (1 : Int) > 0 by decide, if_true]
   by_cases h : i < 0
   ·simp only [h, if_true] <;> omega
   ·simp only [h, if_false] <;> omega
theorem Zji (its : List Value) (lo hi : Option Int) : slicePick its.toArray lo hi none = ((its.drop (HT.sIx its.length 0 lo)).take (HT.sIx its.length its.length hi - HT.sIx its.length 0 lo)).toArray := by
 obtain ⟨h1, h2, h3⟩ := Zke lo hi its.toArray.size
 unfold slicePick
 rw [h1, h2, h3]
 simp only [sliceRange_one, pick_run, List.size_toArray] <;> rfl
noncomputable def rSlL (K : PySem.W.Frag) : V -> Option Int -> Option Int -> Hp -> VK -> Prop := fun x lo hi H Q => ∃ a xs, x = .ref a ∧ SqL K H a xs ∧ ∀ p, H p = none -> Q (.ref p) (upd H p (.lst (Zun xs lo hi)))
theorem Zxu : SlR X (rSlL X.K) := by
 intro pins s σ H x v vl vu lo hi sl Q I rx hs pl pu h
 obtain ⟨a, xs, rfl, hx, q⟩ := h
 cases rx
 obtain ⟨its, r, ht, hz⟩ := I.list hx
 have hlen := r.length
 refine ⟨"list", _, slot_list_getitem.lookup, ht.isList.typeIs, ?_⟩
 refine wpAny_getItem_list_slice ht.isList hs pl pu .none (by simp) ?_ (by rw [List.size_toArray] <;> omega)
 rw [Zji, ← hlen]
 refine ⟨.ref s.heap.objs.size, _, I.laid (t' := s.toks) (o := .lst (Zun xs lo hi)) (fun b ob q => Heap.get?_push_of_some _ q) (Nat.le_refl _) ?_, rfl, q _ (I.hok.fresh (Nat.le_refl _))⟩
 exact ⟨Nat.le_trans (Zd0 xs lo hi) hz, _, 0, (r.drop (HT.sIx xs.length 0 lo)).take (HT.sIx xs.length xs.length hi - HT.sIx xs.length 0 lo), Heap.get?_push_size _ rfl⟩
theorem Zlb : Zf1 X (.builtin "len") (fun xs H Q => ∃ p ys, xs = [.ref p] ∧ (SqL X.K H p ys ∨ SqT X.K H p ys) ∧ Q (.int ys.length) H) := by
 intro pins s σ H xs us Q I r h
 obtain ⟨p, ys, rfl, hq, q⟩ := h
 obtain ⟨u, rfl, rx⟩ := Zgp r
 cases rx
 have hn := Zkv
 rcases hq with hq | hq
 ·obtain ⟨its, r', pl, hz⟩ := I.list hq
  have hlen := r'.length
  exact Calls.call_len_list pl.isList (by simp only [List.size_toArray] <;> omega) ⟨.int ys.length, H, I.tok _, ⟨s.toks + 1, by rw [List.size_toArray, hlen]⟩, q⟩
 ·obtain ⟨its, r', pl, hz⟩ := I.tuple hq
  have hlen := r'.length
  exact len_tuple pl (by simp only [List.size_toArray] <;> omega) ⟨.int ys.length, H, I.tok _, ⟨s.toks + 1, by rw [List.size_toArray, hlen]⟩, q⟩
theorem Zj2 : Zf1 X (.builtin "len") (fun xs H Q => ∃ z, xs = [.str z] ∧ z.length ≤ sizeLine ∧ Q (.int z.length) H) := by
 intro pins s σ H xs us Q I r h
 obtain ⟨z, rfl, hz, q⟩ := h
 obtain ⟨u, rfl, t, rfl⟩ := Zgp r
 have hn := Zkv
 exact len_str (by omega) ⟨.int z.length, H, I.tok _, ⟨_, rfl⟩, q⟩
theorem Zkn : Zf1 X (.type "list") (fun xs H Q => ∃ p ys, xs = [.ref p] ∧ (SqL X.K H p ys ∨ SqT X.K H p ys) ∧ ∀ l, H l = none → Q (.ref l) (upd H l (.lst ys))) := by
 intro pins s σ H xs us Q I r h
 obtain ⟨p, ys, rfl, hq, q⟩ := h
 obtain ⟨u, rfl, rx⟩ := Zgp r
 cases rx
 have fin : ∀ (its : List Value), Zbt ys its -> ys.length ≤ sizeLine -> ∀ (h' : Heap) (c' : Nat), (∀ b o', s.heap.get? b = some o' -> h'.get? b = some o') →
   h'.get? s.heap.objs.size = some { cls := .type "list", dict := none, data := .seq its.toArray c', slots := #[] } → EP X pins σ Q (.ref s.heap.objs.size) { s with heap := h' } := fun its r' hz h' c' kp e =>
  ⟨.ref s.heap.objs.size, _, I.laid (t' := s.toks) kp (Nat.le_refl _) (show Zcg X.prog X.w _ h' _ (.lst ys) from ⟨hz, its, c', r', e⟩), rfl, q _ (I.hok.fresh (Nat.le_refl _))⟩
 rcases hq with hq | hq
 ·obtain ⟨its, r', pl, hz⟩ := I.list hq
  have hlen := r'.length
  obtain ⟨o, ho, hc, n, hd⟩ := pl.isList
  exact call_list_seq p (.inl rfl) ho hc hd (fun h' c' kp e => fin its r' hz h' c' kp e) (by simp only [List.size_toArray] <;> omega)
 ·obtain ⟨its, r', pl, hz⟩ := I.tuple hq
  have hlen := r'.length
  obtain ⟨o, ho, hc, n, hd⟩ := pl
  exact call_list_seq p (.inr rfl) ho hc hd (fun h' c' kp e => fin its r' hz h' c' kp e) (by simp only [List.size_toArray] <;> omega)
theorem Zjm : Zf1 X (.type "tuple") (fun xs H Q => ∃ p ys, xs = [.ref p] ∧ ((SqL X.K H p ys ∧ ∀ l, H l = none → Q (.ref l) (upd H l (.tup ys))) ∨ (SqT X.K H p ys ∧ Q (.ref p) H))) := by
 intro pins s σ H xs us Q I r h
 obtain ⟨p, ys, rfl, h⟩ := h
 obtain ⟨u, rfl, rx⟩ := Zgp r
 cases rx
 rcases h with ⟨hq, q⟩ | ⟨hq, q⟩
 ·obtain ⟨its, r', pl, hz⟩ := I.list hq
  have hlen := r'.length
  refine call_tuple_list pl.isList (fun h' kp => ?_) (by simp only [List.size_toArray] <;> omega)
  have I1 : Inv X pins σ H { s with heap := h' } := I.kept (t' := s.toks) kp
  have I2 : Inv X pins σ (upd H h'.objs.size (.tup ys)) { s with heap := h'.push { cls := .type "tuple", data := .seq its.toArray } } :=
   I1.laid (t' := s.toks) (fun b o e => Heap.get?_push_of_some _ e) (Nat.le_refl _) (show Zcg X.prog X.w _ _ _ (.tup ys) from ⟨hz, its, r', Zi4.new _ _⟩)
  exact ⟨.ref h'.objs.size, _, I2, rfl, q _ (I1.hok.fresh (Nat.le_refl _))⟩
 ·obtain ⟨its, r', pl, hz⟩ := I.tuple hq
  exact call_tuple_same pl ⟨.ref p, H, I, rfl, q⟩
noncomputable def tyV (K : PySem.W.Frag) (T : String) (x : V) (H : Hp) : Prop := match x with
 | .str _ => T = "str"
 | .int _ => T = "int"
 | .ref p => (T = "list" ∧ ∃ xs, SqL K H p xs) ∨ (T = "tuple" ∧ ∃ o, K.lookup p = some o ∧ o.cls = .type "tuple" ∧ o.dict = none) ∨
   (T = "dict" ∧ ((∃ kvs, H p = some (.dK kvs)) ∨ ∃ kvs, H p = some (.dT kvs))) ∨ (T = "set" ∧ ∃ S n, H p = some (.set S n))
 | _ => False
theorem Zzt {pins : List (Addr × Obj)} {σ : St} {H : Hp} {s : Shared} {T : String} {x : V} {v : Value} (I : Inv X pins σ H s) (r : Zb2 x v) (ty : tyV X.K T x H) :
  s.TypeIs v T ∧ ∀ a, v = .ref a -> ∃ ob, s.heap.get? a = some ob ∧ ob.dict = none := by
 cases x with
 | str z =>
  obtain ⟨t, rfl⟩ := r
  cases (show T = "str" from ty)
  exact ⟨typeIs_str s z t, fun _ e => nomatch e⟩
 | int i =>
  obtain ⟨t, rfl⟩ := r
  cases (show T = "int" from ty)
  exact ⟨typeIs_int s i t, fun _ e => nomatch e⟩
 | ref p =>
  cases r
  rcases ty with ⟨rfl, xs, hq⟩ | ⟨rfl, o, hk, hc, hd⟩ | ⟨rfl, hk⟩ | ⟨rfl, S, n, hk⟩
  ·obtain ⟨its, _, pl, _⟩ := I.list hq
   refine ⟨pl.isList.typeIs, fun a e => ?_⟩
   cases e
   obtain ⟨o, n, e, c, hd, _⟩ := pl
   exact ⟨o, e, hd⟩
  ·refine ⟨⟨o, I.kIn p o hk, hc⟩, fun a e => ?_⟩
   cases e
   exact ⟨o, I.kIn _ o hk, hd⟩
  ·have z : ∃ o, s.heap.get? p = some o ∧ o.ExactDict := by
    rcases hk with ⟨kvs, hk⟩ | ⟨kvs, hk⟩
    ·obtain ⟨_, _, _, _, o, _, _, e, ex, _⟩ := I.hok p _ hk
     exact ⟨o, e, ex⟩
    ·obtain ⟨_, _, _, _, o, _, _, e, ex, _⟩ := I.hok p _ hk
     exact ⟨o, e, ex⟩
   obtain ⟨o, e, ex⟩ := z
   refine ⟨⟨o, e, ex.1⟩, fun a e2 => ?_⟩
   cases e2
   exact ⟨o, e, ex.2.1⟩
  ·obtain ⟨o, _, _, _, e, ex, _⟩ := I.hok p _ hk
   refine ⟨⟨o, e, ex.1⟩, fun a e2 => ?_⟩
   cases e2
   exact ⟨o, e, ex.2.1⟩
 | _ => exact False.elim ty
noncomputable def tBM (K : PySem.W.Frag) (T : String) (r : V -> List V -> Hp -> VK -> Prop) (to : TE) (t : TA) : TE := fun σ H Q => to σ H fun x H1 => tyV K T x H1 ∧ t σ H1 fun xs H2 => r x xs H2 Q
variable {o e : Expr} {es : List Expr} {to : TE} {t : TA} {name : Str} {apos cpos : Pos} {T id : String} {r : V -> List V -> Hp -> VK -> Prop}
theorem pe_bm (pa : PlainAttrs T) (slot : Slot T name id) (hty : typeOf (.builtin id) = pure (.type "method_descriptor")) (hm : MtR X id r) (ho : PE X o to) (ha : PA X (e :: es) t)
  (hbase : attributeBase o name X.env (eval o X.env) = eval o X.env := by rfl)
  (hfew : ((backTo cpos (starEach (e :: es) X.env)).all (fun x => !x.1) && (backToKw cpos (keywordEach [] X.env)).all (fun x => x.1.isSome)
   && decide ((e :: es).length + ([] : List Keyword).length + (if ([] : List Keyword).isEmpty then 0 else 1) < 30)) = true := by rfl)
  (hline : (apos.endLine == cpos.line) = true := by rfl) (hs : starEach (e :: es) X.env = (false, eval e X.env) :: starEach es X.env := by rfl) (hplain : (backTo cpos (starEach es X.env)).any (·.1) = false := by rfl) :
  PE X (.Call (.Attribute o name apos) (e :: es) [] cpos) (tBM X.K T r to t) := by
 intro pins s σ H Q I h
 refine wpAny_Call_method_late hbase hfew hline rfl (thn (ho pins s σ H _ I h) fun v s1 zz => ?_)
 obtain ⟨x, H1, I1, r1, ty, q1⟩ := zz
 obtain ⟨h1, h2⟩ := Zzt I1 r1 ty
 refine ⟨T, id, pa, slot, hty, h1, h2, ?_⟩
 have hA := ha cpos pins s1 σ H1 _ I1 q1
 rw [hs] at hA ⊢
 refine Calls.callWith_builtin (by show (false || (backTo cpos (starEach es X.env)).any (·.1)) = false; rw [hplain] <;> rfl) (Calls.evalArgs_plain ?_)
 exact thn hA fun us s2 ⟨vs, H2, I2, r2, q2⟩ => hm pins s2 σ H2 x vs v us Q I2 r1 r2 q2
end
noncomputable def MtM (X : Cx) (id : String) (r : V -> List V -> Hp -> VK -> Prop) : Prop :=
 ∀ (pins : List (Addr × Obj)) (s : Shared) (σ : St) (H : Hp) (x : V) (xs : List V) (v : Value) (us : List Value) (Q : VK), Inv X pins σ H s -> Zb2 x v -> Zbt xs us -> r x xs H Q →
  wpAny (model X.prog X.w) X.A (call (.builtin id) (v :: us)) (EP X pins σ Q) X.xe s
theorem Zbt.one : ∀ {x : V} {us : List Value}, Zbt [x] us -> ∃ u, us = [u] ∧ Zb2 x u := by
 intro x us h
 cases h with
 | cons r t => cases t; exact ⟨_, rfl, r⟩
theorem Zbt.rep {xs : List V} {us : List Value} (h : Zbt xs us) : ∀ k : Nat, Zbt (List.replicate k xs).flatten (List.replicate k us).flatten
 | 0 => .nil
 | k + 1 => by
  rw [List.replicate_succ, List.replicate_succ, List.flatten_cons, List.flatten_cons]
  exact Zbt.append h (Zbt.rep h k)
theorem Zg6 (its : List Value) : ∀ (k : Nat) (acc : List Value),
  List.foldl (fun x1 x2 => x1 ++ x2) acc.toArray (List.replicate k its.toArray) = (acc ++ (List.replicate k its).flatten).toArray
 | 0, acc => by simp
 | k + 1, acc => by
  have e : acc.toArray ++ its.toArray = (acc ++ its).toArray := by simp
  have e2 : (acc ++ its) ++ (List.replicate k its).flatten = acc ++ (List.replicate (k + 1) its).flatten := by
   rw [List.replicate_succ, List.flatten_cons, List.append_assoc]
  rw [← e2, ← Zg6 its k (acc ++ its), ← e, List.replicate_succ, List.foldl_cons]
section
variable {X : Cx} {pins : List (Addr × Obj)} {σ : St} {H : Hp} {s : Shared} {l b : Addr} {xs ys zs : List V}
theorem Inv.lset {its its' : List Value} {n : Nat} {f : Array Value -> Array Value} {t' : Nat} (I : Inv X pins σ H s) (hH : H l = some (.lst xs))
  (e : s.heap.get? l = some { cls := .type "list", data := .seq its.toArray n }) (hf : f its.toArray = its'.toArray) (hv : Zbt ys its') (hz : ys.length ≤ sizeLine) :
  Inv X pins σ (upd H l (.lst ys)) { s with heap := s.heap.update l (Obj.mapSeq f), toks := t' } := by
 have q := PySem.IsL.update e f
 rw [hf] at q
 refine I.write (x := l) (e := l) (by rw [hH]; exact trivial) (.inl rfl) (fun b' u hb hu => (Heap.get?_update_other s.heap (Obj.mapSeq f) (Ne.symm hb)).trans hu) ⟨_, q⟩ ?_
 exact ⟨hz, its', _, hv, q⟩
theorem Inv.lnew {its : List Value} {t' : Nat} (I : Inv X pins σ H s) (hv : Zbt ys its) (hz : ys.length ≤ sizeLine) :
  Inv X pins σ (upd H s.heap.objs.size (.lst ys)) { s with heap := s.heap.push { cls := .type "list", data := .seq its.toArray }, toks := t' } :=
 I.laid (fun _ _ q => Heap.get?_push_of_some _ q) (Nat.le_refl _) ⟨hz, its, 0, hv, Heap.get?_push_size _ rfl⟩
theorem Inv.fresh (I : Inv X pins σ H s) : H s.heap.objs.size = none := I.hok.fresh (Nat.le_refl _)
theorem Inv.lstM (I : Inv X pins σ H s) (hH : H l = some (.lst xs)) : xs.length ≤ sizeLine ∧ ∃ (its : List Value) (n : Nat), Zbt xs its ∧ xs.length = its.length ∧ s.heap.get? l = some { cls := .type "list", data := .seq its.toArray n } := by
 obtain ⟨z, its, n, r, e⟩ := I.hok l _ hH
 exact ⟨z, its, n, r, r.length, e⟩
theorem Ztx {n : Nat} (h : n ≤ sizeLine) : Builtin.List.listTooLong n = false := by
 unfold Builtin.List.listTooLong
 exact decide_eq_false (by omega)
end
section
variable {X : Cx}
noncomputable def Zw2 : V -> List V -> Hp -> VK -> Prop := fun x vs H Q => ∃ l xs y, x = .ref l ∧ vs = [y] ∧ H l = some (.lst xs) ∧ xs.length < sizeLine ∧ Q .non (upd H l (.lst (xs ++ [y])))
theorem Zlg : MtM X "list.append" Zw2 := by
 intro pins s σ H x vs v us Q I rx rv h
 obtain ⟨l, xs, y, rfl, rfl, hH, hz, q⟩ := h
 cases rx
 obtain ⟨u, rfl, ru⟩ := rv.one
 obtain ⟨z, its, n, r, hl, e⟩ := I.lstM hH
 refine call_meets F.slot_list_append ⟨_, e, rfl⟩ F.entry_list_append (F.args_list_append_2 _ _) (PySem.list_append l its.toArray n u (by rw [List.size_toArray]; omega)) ⟨e, ?_⟩
 refine ⟨.non, _, I.lset (its' := its ++ [u]) hH e (by simp) (r.append (.cons ru .nil)) ?_, rfl, q⟩
 rw [List.length_append, List.length_singleton]
 omega
noncomputable def rCat : R2 := fun x y H Q => ∃ l b xs zs, x = .ref l ∧ y = .ref b ∧ H l = some (.lst xs) ∧ H b = some (.lst zs) ∧ xs.length + zs.length ≤ sizeLine ∧ ∀ p, H p = none -> Q (.ref p) (upd H p (.lst (xs ++ zs)))
theorem Zz4 : OpR X (binaryOp .Add) rCat := by
 intro pins s σ H x y v u Q I rx ry h
 obtain ⟨l, b, xs, zs, rfl, rfl, hH, hB, hz, q⟩ := h
 cases rx
 cases ry
 obtain ⟨z, its, n, r, hl, e⟩ := I.lstM hH
 obtain ⟨z2, its2, n2, r2, hl2, e2⟩ := I.lstM hB
 refine PySem.P.add_list e e2 ?_ (by rw [List.size_toArray, List.size_toArray]; omega)
 have ea : its.toArray ++ its2.toArray = (its ++ its2).toArray := by simp
 rw [ea]
 exact ⟨.ref _, _, I.lnew (t' := s.toks) (r.append r2) (by rw [List.length_append]; omega), rfl, q _ I.fresh⟩
noncomputable def rRep : R2 := fun x y H Q => ∃ l k xs, x = .ref l ∧ y = .int k ∧ H l = some (.lst xs) ∧ -(2 ^ 63) ≤ k ∧ k < 2 ^ 63 ∧ xs.length * k.toNat ≤ sizeLine ∧
 ∀ p, H p = none -> Q (.ref p) (upd H p (.lst (List.replicate k.toNat xs).flatten))
theorem Zlz {α : Type} (xs : List α) (k : Nat) : (List.replicate k xs).flatten.length = k * xs.length := by
 induction k with
 | zero => simp
 | succ k ih => rw [List.replicate_succ, List.flatten_cons, List.length_append, ih, Nat.succ_mul, Nat.add_comm]
theorem Zzw : OpR X (binaryOp .Mult) rRep := by
 intro pins s σ H x y v u Q I rx ry h
 obtain ⟨l, k, xs, rfl, rfl, hH, h1, h2, hz, q⟩ := h
 cases rx
 obtain ⟨t, rfl⟩ := ry
 obtain ⟨z, its, n, r, hl, e⟩ := I.lstM hH
 have hlen : its.toArray.size * k.toNat ≤ sizeLine := by rw [List.size_toArray, ← hl]; exact hz
 have hcap : ¬ its.toArray.size * k.toNat > (2 ^ 63 - 1) / 8 := by
  have : (sizeLine : Nat) ≤ (2 ^ 63 - 1) / 8 := by decide
  omega
 have hfit : ¬ (!Builtin.List.listFitsIndex k) = true := by
  rw [fitsIndex_both h1 h2]
  exact Bool.false_ne_true
 have hlong : ¬ Builtin.List.listTooLong (its.toArray.size * k.toNat) = true := by
  rw [Ztx hlen]
  exact Bool.false_ne_true
 have hnew : List.foldl (fun x1 x2 => x1 ++ x2) #[] (List.replicate (if its.toArray.isEmpty = true then 0 else k.toNat) its.toArray) = (List.replicate k.toNat its).flatten.toArray := by
  have f0 : ∀ m : Nat, List.foldl (fun x1 x2 => x1 ++ x2) #[] (List.replicate m its.toArray) = (List.replicate m its).flatten.toArray := fun m => by
   have := Zg6 its m []
   rw [List.nil_append] at this
   exact this
  rw [f0]
  cases its with
  | nil => simp
  | cons a r' => rw [if_neg (by simp)]
 refine wpAny_binaryOp_repeat_ref (T := "list") (U := "int") (by decide) ⟨_, e, rfl⟩ (fun s' => typeIs_int s' k t) noFill_list_mul F.fills_int_mul F.slot_int_rmul repeat_list F.slot_int_index.lookup
  (call_meets F.slot_int_rmul (typeIs_int s k t) F.entry_int_rmul (F.args_int_rmul_2 _ _) (int___rmul___int_list k t l its.toArray n)
   ⟨e, rfl, ⟨_, e, rfl⟩, call_meets F.slot_list_mul ⟨_, e, rfl⟩ F.entry_list_mul (F.args_list_mul_2 _ _) (AutoListH.list___mul___list_int_3 l its.toArray n k t hfit hcap hlong) ⟨e, ?_⟩⟩)
 rw [hnew]
 exact ⟨.ref _, _, I.lnew (t' := s.toks) (r.rep k.toNat) (by rw [Zlz, Nat.mul_comm]; exact hz), rfl, q _ I.fresh⟩
end
section
variable {prog : Program} {w : World} {A : Around} {E : Value -> Shared -> Prop} {s : Shared}
set_option maxRecDepth 100000 in
end
end L2
namespace Att
open PySem PySem.W PySem.Calls PyProof.Rows
theorem Zhv {P : Params} {h : Heap} : ∀ (ns : List Int) (vs : List Value), WellAll P h vs (ns.map WData.int) -> IntsAre vs ns := by
 intro ns
 induction ns with
 | nil =>
  intro vs w
  rw [List.map_nil] at w
  cases w
  exact .nil
 | cons n ns ih =>
  intro vs w
  rw [List.map_cons] at w
  cases w with
  | cons a b =>
   cases a
   exact .cons _ _ (ih _ b)
theorem Zq3 {l : OpenLaw} {n : Nat} (hn : l.most = some n) {P : Params} {h : Heap} {args : List WData} {vals : List Value}
  (hpre : l.row.toRowW.claim.pre args = true) (hwl : WellAll P h vals args) :
  ∃ a vs ns, vals = [Value.ref a] ∧ args = [WData.list (ns.map WData.int)] ∧ h.get? a = some { cls := .type "list", data := .seq vs.toArray } ∧ IntsAre vs ns ∧ ns.length ≤ n := by
 have hsh : WShape.hasAll [] args [.list .int] = true := (pre_splitW hpre).1
 have hc : l.pre.holds [] { args := args } = true := (pre_splitW hpre).2
 obtain ⟨d, r, rfl, h1, h2⟩ := hasAllW_cons hsh
 obtain rfl := hasAllW_nil h2
 obtain ⟨xs, rfl, h3⟩ := hasW_list h1
 obtain ⟨ns, rfl⟩ := items_int h3
 have hlen : ns.length ≤ n := by
  unfold OpenLaw.pre at hc
  have h4 : (WTm.not (.lt (.lit (.int (n : Int))) (.len (.arg 0)))).holds [] { args := [.list (ns.map .int)] } = true := by
   have h4 := (holds_andW hc).1
   rw [hn] at h4
   exact h4
  have h5 := condW_of h4 (w_not (w_lt w_lit (w_len_list (w_arg rfl))))
  rw [List.length_map] at h5
  refine Nat.le_of_not_lt fun q => ?_
  have q' : (n : Int) < ((ns.length : Nat) : Int) := by omega
  first
   | (rw [decide_eq_true q'] at h5; exact absurd h5 (by decide))
   | (simp at h5; omega)
 cases hwl with
 | cons w1 w2 =>
  cases w2
  cases w1 with
  | list ho hall => exact ⟨_, _, ns, rfl, rfl, ho, Zhv ns _ hall, hlen⟩
theorem Zqc (l : OpenLaw) (args : List WData) : l.row.toRowW.claim.post args (.bool true) args = true :=
 postW_of (r := l.row.toRowW) (X := (true == true))
  (show WShape.has [] (.bool true) .bool = true by first | rfl | decide | simp [WShape.has, WShape.arms, WShape.armsAll])
  (show (WTm.eq .res (.lit (.bool true))).value [] { args := args, res := some (.bool true), after := args } = some (.bool (true == true)) from w_eq_bool (w_res rfl) w_lit) rfl
theorem attach_call {l : OpenLaw} {n : Nat} {q : Program} {loose : List Str} {XP : (Str -> Option Value) -> Heap -> Prop} {YP : World -> Heap -> Prop} {d : DefRec}
  (hn : l.most = some n) (hdf : d.params.defaults = [])
  (call : ∀ (w : World) (s₀ s₁ : Shared) (mg mb : Str -> Option Value) (fa : Addr) (o : Obj) (pm cd doc : Value) (a : Addr) (vs : List Value) (ns : List Int),
   Ground q loose [] XP w s₀ mg mb s₁.heap -> YP w s₁.heap →
   s₁.heap.get? fa = some o -> o.data = .func (docDef d.name d.params d.body d.scope pm cd doc) -> s₁.heap.CodeRec cd d.name -> mg d.name = some (.ref fa) →
   s₁.heap.get? a = some { cls := .type "list", data := .seq vs.toArray } → IntsAre vs ns → ns.length ≤ n → s₁.gens = #[] →
   codeAny (model l.prog w) callerA (.call (.ref fa) ⟨[.ref a], []⟩) (fun r s' => r = .ok (.ret (.bool true)) ∧ OldK s₁.heap s'.heap ∧ s'.os = s₁.os ∧ AllBare s'.gens) s₁) :
  WalkO q loose XP YP l.row.toRowW d [] (fun f vs => PySem.call f vs) := by
 intro w s₀ s₁ mg mb G Y fa o pm cd doc dV kV ho hd hcd hD hmg hg args vals as hpre hlay hrd hwl hlo
 obtain rfl : dV = .none := Dflts.none hD hdf
 obtain rfl : kV = .none := Dflts.noKw hD
 obtain ⟨a, vs, ns, rfl, rfl, hobj, hints, hlen⟩ := Zq3 hn hpre hwl
 refine enter_call (codeAny_mono (call w s₀ s₁ mg mb fa o pm cd doc a vs ns G Y ho (fd_plain hd) hcd hmg hobj hints hlen hg) fun r s' hq => ?_)
 obtain ⟨rfl, h2, h3, h4⟩ := hq
 exact ⟨.inl ⟨.bool true, .bool true, [], rfl, fun _ => rfl, .bool true, Zqc l _, fun _ => ⟨List.Pairwise.nil, fun _ hm => (nomatch hm)⟩⟩, h2, h3, h4⟩
end Att
namespace L2
open PySem PySem.Spec PyProof.Rows
theorem Zlk : ∀ {vs : List Value} {ns : List Int}, IntsAre vs ns -> Zbt (ns.map V.int) vs
 | _, _, .nil => .nil
 | _, _, .cons n t h => .cons ⟨t, rfl⟩ (Zlk h)
noncomputable def Zyn (H : Hp) : Prop := ∀ b, H b = none ∨ ∃ o xs, H b = some (.frz o (.lst xs))
theorem Zs2 {P : Program} {w : World} {K : PySem.W.Frag} {mg mb : Str -> Option Value} {CX : CXT} {k : Nat} {fa a : Addr} {fd : FuncData} {x : Str} {sp : Sp} {s₁ : Shared} {vs : List Value} {ns : List Int}
  (KX : K.In s₁.heap) (hns : s₁.heap.Ns mainGlobals mg) (hb : s₁.heap.Ns builtinsNs mb) (hbb : ∀ x : Str, x ≠ "__name__" → mb x = bootBuiltins x) (hlim : s₁.heap.NoLimit) (hg : s₁.gens = #[])
  (ha : s₁.heap.get? a = some { cls := .type "list", data := .seq vs.toArray }) (hi : IntsAre vs ns) (hl : ns.length ≤ sizeLine) (hr : Room k callerA)
  (F : ∀ base : Heap, K.In base -> base.Ns mainGlobals mg -> FnOk P w K mg base CX k fa fd [x] sp) (hbind : ∀ (s : Shared) (u : Value), BindsTo s fd ⟨[u], []⟩ [(x, u)])
  (hsp : ∀ H : Hp, Zyn H -> SqL K H a (ns.map V.int) -> sp [.ref a] H (fun v _ => v = .bl true) fun _ _ _ => False)
  (hCX : ∀ H e s', CX [] H s₁ (fun _ _ _ => False) e s' -> False) :
  codeAny (model P w) callerA (.call (.ref fa) ⟨[.ref a], []⟩) (fun r s' => r = .ok (.ret (.bool true)) ∧ OldK s₁.heap s'.heap ∧ s'.os = s₁.os ∧ AllBare s'.gens) s₁ := by
 have rv := Zlk hi
 have lenV := hi.length
 -- from an abstract heap in which nothing but the script may be tracked
 have core : ∀ H : Hp, Zyn H -> SqL K H a (ns.map V.int) -> HOk P w H s₁.heap -> (∀ b, H b ≠ none -> b = a) -> (H a ≠ none -> K.lookup a = none) →
   codeAny (model P w) callerA (.call (.ref fa) ⟨[.ref a], []⟩) (fun r s' => r = .ok (.ret (.bool true)) ∧ OldK s₁.heap s'.heap ∧ s'.os = s₁.os ∧ AllBare s'.gens) s₁ := by
  intro H hO hS hok hA hK
  have base_of : ∀ {b : Addr} {o : Obj}, s₁.heap.get? b = some o -> H b = none -> (Ztf s₁.heap H).get? b = some o := fun e n => Ztu e n
  have noA : ∀ {b : Addr} {o : Obj} {es : Array DictEntry} {ep : Nat}, s₁.heap.get? b = some o -> o.data = .dict es ep -> H b = none := fun {b o es ep} e d => by
   cases q : H b with
   | none => rfl
   | some u =>
    have e' : b = a := hA b (by rw [q]; simp)
    subst e'
    rw [ha] at e; cases e
    have d' : Data.seq vs.toArray _ = Data.dict es ep := d
    cases d'
  have nsK : ∀ {b : Addr} {m : Str -> Option Value}, s₁.heap.Ns b m -> (Ztf s₁.heap H).Ns b m := fun {b m} ⟨o, es, ep, e, d, r⟩ => ⟨o, es, ep, base_of e (noA e d), d, r⟩
  have hKb : K.In (Ztf s₁.heap H) := fun b o e => base_of (KX b o e) (by
   cases q : H b with
   | none => rfl
   | some u =>
    have e' : b = a := hA b (by rw [q]; simp)
    subst e'
    rw [hK (by rw [q]; simp)] at e; cases e)
  have hM : Mod K mg (Ztf s₁.heap H) := ⟨hKb, nsK hns, ⟨mb, nsK hb, hbb⟩, let ⟨mc, h1, h2⟩ := hlim; ⟨mc, nsK h1, h2⟩⟩
  have e0 : Env0 P w K mg (Ztf s₁.heap H) callerA [] s₁ H := ⟨rfl, hM, fun b o e => Zwq e, Nat.le_of_eq (Zq7 _ _), trivial, fun b hb => absurd (show b ∈ ([] : List Addr) from hb) (by simp), hok, .of_eq hg⟩
  refine codeAny_mono ((F _ hKb (nsK hns)).run callerA [] s₁ H ⟨[.ref a], []⟩ [.ref a] [.ref a] _ _ hr e0 (hbind s₁ (.ref a)) (.cons rfl .nil) (hsp H hO hS)) fun r s' h => ?_
  cases r with
  | error e => exact (hCX H e s' h).elim
  | ok fl =>
   cases fl with
   | next => exact False.elim h
   | brk => exact False.elim h
   | cont => exact False.elim h
   | ret u =>
    obtain ⟨v, H', os, bare, un, hok', r', q⟩ := h
    have q' : v = .bl true := q
    subst q'
    obtain rfl : u = Value.bool true := r'
    refine ⟨rfl, OldK.of_keep fun b o e => ?_, os, bare⟩
    cases q : H b with
    | none => exact un.keep b o e q (by intro z; exact absurd (show b ∈ ([] : List Addr) from z) (by simp)) (by simp)
    | some u =>
     rcases hO b with z | ⟨ob, xs, z⟩
     ·rw [q] at z; cases z
     ·have z2 := un.frzs b ob _ z
      obtain ⟨e1, _⟩ := hok b _ z
      obtain ⟨e2, _⟩ := hok' b _ z2
      rw [e] at e1; cases e1
      exact e2
 cases hk : K.lookup a with
 | some o =>
  -- the script is one of the module's own objects
  have e := KX a o hk
  rw [ha] at e
  cases e
  refine core (fun _ => none) (fun _ => .inl rfl) (.inr ⟨_, vs.toArray, _, hk, rfl, rfl, rfl, by rw [List.size_toArray, lenV]; exact hl, by simpa using rv⟩) (fun b u z => by have z' : (none : Option HO) = some u := z; cases z') (fun b z => absurd rfl z) fun z => absurd rfl z
 | none =>
  refine core (fun b => if b = a then some (.frz { cls := .type "list", data := .seq vs.toArray } (.lst (ns.map V.int))) else none) (fun b => ?_) (.inl (.inr ⟨{ cls := .type "list", data := .seq vs.toArray }, if_pos rfl⟩)) (fun b u z => ?_) (fun b z => ?_) fun _ => hk
  ·by_cases hb : b = a
   ·exact .inr ⟨_, _, if_pos hb⟩
   ·exact .inl (if_neg hb)
  ·by_cases hb : b = a
   ·have z' := (if_pos hb).symm.trans z
    cases z'
    subst hb
    exact ⟨ha, by rw [List.length_map]; exact hl, vs, _, rv, ha⟩
   ·have z' := (if_neg hb).symm.trans z
    cases z'
  ·by_cases hb : b = a
   ·exact hb
   ·exact absurd (if_neg hb) z
noncomputable abbrev KOf {K : PySem.W.Frag} {h : Heap} (_ : K.In h) : PySem.W.Frag := K
theorem Zvk {l : PySem.W.OpenLaw} {n k : Nat} {q : Program} {loose : List Str} {XP : (Str -> Option Value) -> Heap -> Prop} {YP : World -> Heap -> Prop} {d : DefRec} {K : Params -> PySem.W.Frag} {CX : World -> CXT} {sp : World -> Sp} {x : Str}
  (hn : l.most = some n) (hn2 : n ≤ sizeLine) (hdf : d.params.defaults = []) (hr : Room k callerA)
  (hY : ∀ (w : World) (h : Heap), YP w h -> (K w.params).In h)
  (F : ∀ (w : World) (mg : Str -> Option Value) (fa : Addr) (h : Heap), (K w.params).In h -> h.Ns mainGlobals mg -> mg d.name = some (.ref fa) →
   ∃ fd : FuncData, (∀ (s : Shared) (u : Value), BindsTo s fd ⟨[u], []⟩ [(x, u)]) ∧
    ∀ base : Heap, (K w.params).In base -> base.Ns mainGlobals mg -> FnOk l.prog w (K w.params) mg base (CX w) k fa fd [x] (sp w))
  (hsp : ∀ (w : World) (H : Hp) (a : Addr) (ns : List Int), ns.length ≤ n -> Zyn H -> SqL (K w.params) H a (ns.map V.int) -> sp w [.ref a] H (fun v _ => v = .bl true) fun _ _ _ => False)
  (hCX : ∀ (w : World) (H : Hp) (s : Shared) (e : Value) (s' : Shared), CX w [] H s (fun _ _ _ => False) e s' -> False) :
  PySem.W.WalkO q loose XP YP l.row.toRowW d [] (fun f vs => PySem.call f vs) := by
 refine Att.attach_call hn hdf fun w s₀ s₁ mg mb fa o pm cd doc a vs ns G Y ho hd hcd hmg hobj hints hlen hg => ?_
 have KX := hY w _ Y
 obtain ⟨fd, hb, hF⟩ := F w mg fa _ KX G.T.g hmg
 exact Zs2 KX G.T.g G.T.b G.T.builtins G.T.nolimit hg hobj hints (Nat.le_trans hlen hn2) hr hF hb (fun H hO hS => hsp w H a ns hlen hO hS) fun H e s' => hCX w H s₁ e s'
theorem walk_ofK {l : PySem.W.OpenLaw} {n k : Nat} {q : Program} {loose : List Str} {XP : (Str -> Option Value) -> Heap -> Prop} {YP : World -> Heap -> Prop} {d : DefRec} {K : Params -> PySem.W.Frag} {CX : CXT} {sp : PySem.W.Frag -> Sp} {x : Str}
  (hn : l.most = some n) (hn2 : n ≤ sizeLine) (hdf : d.params.defaults = []) (hr : Room k callerA)
  (hY : ∀ (w : World) (h : Heap), YP w h -> (K w.params).In h)
  (F : ∀ (w : World) (mg : Str -> Option Value) (fa : Addr) (h : Heap), (K w.params).In h -> h.Ns mainGlobals mg -> mg d.name = some (.ref fa) →
   ∃ fd : FuncData, (∀ (s : Shared) (u : Value), BindsTo s fd ⟨[u], []⟩ [(x, u)]) ∧
    ∀ base : Heap, (K w.params).In base -> base.Ns mainGlobals mg -> FnOk l.prog w (K w.params) mg base CX k fa fd [x] (sp (K w.params)))
  (hsp : ∀ (K : PySem.W.Frag) (H : Hp) (a : Addr) (ns : List Int), ns.length ≤ n -> Zyn H -> SqL K H a (ns.map V.int) -> sp K [.ref a] H (fun v _ => v = .bl true) fun _ _ _ => False)
  (hCX : ∀ (H : Hp) (s : Shared) (e : Value) (s' : Shared), CX [] H s (fun _ _ _ => False) e s' -> False) :
  PySem.W.WalkO q loose XP YP l.row.toRowW d [] (fun f vs => PySem.call f vs) :=
 Zvk (K := K) (CX := fun _ => CX) (sp := fun w => sp (K w.params)) hn hn2 hdf hr hY F (fun w H a ns h1 h2 h3 => hsp (K w.params) H a ns h1 h2 h3) fun _ H s e s' => hCX H s e s'
noncomputable def Zek (s : Stmt) : Arguments := match s with
 | .FunctionDef _ a _ _ _ _ _ _ _ _ => a
 | _ => { posonlyargs := [], args := [], vararg := none, kwonlyargs := [], kw_defaults := [], kwarg := none, defaults := [] }
noncomputable def Zby (s : Stmt) : List Stmt := match s with
 | .FunctionDef _ _ b _ _ _ _ _ _ _ => b
 | _ => []
noncomputable def Zad (s : Stmt) : Scope := match s with
 | .FunctionDef _ _ _ _ _ _ sc _ _ _ => sc
 | _ => { kind := .function, names := [], isGenerator := false, isCoroutine := false }
noncomputable abbrev CX0 : CXT := fun _ _ _ _ _ _ => False
noncomputable abbrev E0 : XK := fun _ _ _ => False
theorem Zye {X : Cx} : Zqt CX0 X E0 := fun _ _ _ _ _ _ _ h => h.elim
structure Fun (K : PySem.W.Frag) (x qual : Str) (st : Stmt) (f : Addr) (fd : FuncData) : Prop where
 ex : ∃ (oc : Value) (od : Option Addr) (kV doc pm : Value) (an : Option Addr) (cdv ct : Value) (osl : Array (Option Value)),
  fd = PySem.W.fnOf x qual (Zek st) (Zby st) (Zad st) .none kV doc pm an cdv ct ∧ K.lookup f = some ⟨oc, od, .func fd, osl⟩ ∧ PySem.W.codeIn K cdv qual = true
 kp : PySem.W.keepIn K (.ref f) = true
section
variable {P : Program} {w : World} {K : PySem.W.Frag} {mg : Str -> Option Value} {base : Heap}
theorem Fun.ok {x qual : Str} {st : Stmt} {f : Addr} {fd : FuncData} {N ps : List Str} {k : Nat} {sp : Sp} (F : Fun K x qual st f fd) (S : FnScope N ps (Zad st)) (len : ∀ vs H Q E, sp vs H Q E -> vs.length = ps.length)
  (hbody : ∀ (cdv : Value) (A : Around) (outer : List Env) (s : Shared) (H : Hp) (vs : List V) (Q : VK) (E : XK), Room k (A.deeper (envOfC qual (Zad st) s.heap.objs.size f cdv)) -> sp vs H Q E →
   ∃ t, PSs (Zfe CX0 P w K mg base N qual (Zad st) f cdv A outer s H E).nox (Zby st) t ∧ t { nx := fun _ H' => Q .non H', rt := Q } (start N vs) H) : FnOk P w K mg base CX0 (k + 1) f fd ps sp := by
 obtain ⟨oc, od, kV, doc, pm, an, cdv, ct, osl, rfl, lk, hcd⟩ := F.ex
 refine Ya6 lk hcd S len fun A outer s H vs Q E hr hsp => ?_
 obtain ⟨t, h, q⟩ := hbody cdv A outer s H vs Q E hr hsp
 exact ⟨t, h.nox, q⟩
theorem Fun.binds {x qual : Str} {st : Stmt} {f : Addr} {fd : FuncData} {ps : List Str} (F : Fun K x qual st f fd)
  (h : ∀ (kV doc pm : Value) (an : Option Addr) (cdv ct : Value) (us : List Value), us.length = ps.length -> bindArgs (PySem.W.fnOf x qual (Zek st) (Zby st) (Zad st) .none kV doc pm an cdv ct) ⟨us, []⟩ = pure (ps.zip us)) : Ze2 K fd ps [] := by
 obtain ⟨oc, od, kV, doc, pm, an, cdv, ct, osl, rfl, lk, hcd⟩ := F.ex
 exact .all (h kV doc pm an cdv ct)
theorem Zu1 {x qual : Str} {st : Stmt} {f : Addr} {oc : Value} {od an : Option Addr} {osl : Array (Option Value)} {kV doc pm cdv ct : Value} (l : K.lookup f = some ⟨oc, od, .func (PySem.W.fnOf x qual (Zek st) (Zby st) (Zad st) .none kV doc pm an cdv ct), osl⟩)
  (c : PySem.W.codeIn K cdv qual = true) (k : PySem.W.keepIn K (.ref f) = true) : Fun K x qual st f (PySem.W.fnOf x qual (Zek st) (Zby st) (Zad st) .none kV doc pm an cdv ct) := ⟨⟨oc, od, kV, doc, pm, an, cdv, ct, osl, rfl, l, c⟩, k⟩
end
section
variable {X : Cx}
theorem pv (i : Nat) {x : Str} {pos : Pos} (hN : X.N[i]? = some x := by rfl) (hv : Vis X.env.scope x := by first | exact Or.inl rfl | exact Or.inr (Or.inl rfl) | exact Or.inr (Or.inr rfl)) (hd : (x == ("__debug__" : Str)) = false := by decide)
  (hcd : (x == ("__classdict__" : Str)) = false := by decide) : PE X (.Name x pos) (tVar i) := Zff hN hv hd hcd
end
end L2
set_option maxHeartbeats 4000000
set_option autoImplicit false
namespace DL
open PySem PySem.Spec PyProof.Rows L2
noncomputable def Zxa : Value -> Option Int
 | .int i _ => some i
 | .bool b => some (if b then 1 else 0)
 | _ => none
noncomputable def Zps (k : Int) (v : Value) : Bool := Zxa v == some k
theorem Zdy {k : Int} {v : Value} (h : Zps k v = true) : (∃ t, v = .int k t) ∨ ∃ b, v = .bool b ∧ k = (if b then 1 else 0) := by
 have h : Zxa v = some k := eq_of_beq h
 cases v with
 | int i t => exact .inl ⟨t, by cases h; rfl⟩
 | bool b => exact .inr ⟨b, rfl, (Option.some.inj h).symm⟩
 | _ => cases h
section
variable {prog : Program} {w : World} {A : Around} {E : Value -> Shared -> Prop} {s : Shared}
theorem Zmd {b : Bool} {Q : Int -> Shared -> Prop} (h : Q (hashInt (if b then 1 else 0)) { s with toks := s.toks + 1 }) : wpAny (model prog w) A (pyHash (.bool b)) Q E s := by
 have hr := rawHash_range (if b then 1 else 0)
 have tb : s.TypeIs (.bool b) "bool" := rfl
 unfold pyHash
 have hv : [Value.bool b].any Value.onHeap = false := rfl
 refine wpAny_bind ?_
 rw [cRoomFor, if_neg (by rw [hv]; exact Bool.false_ne_true)]; refine wpAny_pure ?_
 refine wpAny_bind (wpAny_specialOf tb F.slot_bool_hash.lookup ?_)
 show wpAny _ _ (if (some (Value.builtin "int.__hash__") == some Value.none) = true then _ else _) Q E s
 rw [if_neg (by rw [beq_builtin_none]; exact Bool.false_ne_true)]
 refine wpAny_bind (wpAny_specialOf tb F.slot_bool_hash.lookup ?_)
 show wpAny _ _ (callSpecialIfBoundUnlessNone? (.bool b) "__hash__" _ >>= _) Q E s
 refine wpAny_bind (wpAny_callSpecialIfBoundUnlessNone?_slot tb F.slot_bool_hash
  (wpAny_call_entry F.slot_bool_hash tb entry_int_hash
   (show wpAny _ _ (do ret (← mkInt (rawHash (if b then 1 else 0)))) _ _ s from wpAny_ret_mkInt ?_) (args_int_hash _)))
 show wpAny _ _ (if (decide (-(2 : Int) ^ 63 ≤ rawHash (if b then 1 else 0)) && decide (rawHash (if b then 1 else 0) < 2 ^ 63)) = true then _ else _) Q E _
 rw [if_pos (by rw [decide_eq_true hr.1, decide_eq_true hr.2]; rfl)]
 exact wpAny_pure h
end
noncomputable def Zjd (prog : Program) (w : World) : KeyKind prog w Int where
 is := Zps
 hash := hashInt
 inj := fun v a b ha hb => by
  unfold Zps at ha hb
  have := (eq_of_beq ha).symm.trans (eq_of_beq hb)
  exact Option.some.inj this
 byValue := fun k v h => by rcases Zdy h with ⟨t, rfl⟩ | ⟨b, rfl, _⟩ <;> rfl
 pyHash := fun hv h => by
  rcases Zdy hv with ⟨t, rfl⟩ | ⟨b, rfl, rfl⟩
  ·exact wpAny_pyHash_int h
  ·exact Zmd h
 eqBool := fun {A E s a b u v Q} hu hv h => by
  rcases Zdy hu with ⟨t, rfl⟩ | ⟨c, rfl, rfl⟩ <;> rcases Zdy hv with ⟨t', rfl⟩ | ⟨c', rfl, rfl⟩
  ·exact wpAny_eqBool_int h
  ·exact PySem.SeqAt.EqAt.int_bool _ _ _ prog w E Q h
  ·exact PySem.SeqAt.EqAt.bool_int _ _ _ prog w E Q h
  ·refine PySem.SeqAt.EqAt.bool_bool _ _ prog w E Q ?_
   have e : (c == c') = decide ((if c then (1 : Int) else 0) = (if c' then 1 else 0)) := by cases c <;> cases c' <;> rfl
   rw [e]; exact h
 «strs» := fun k x t v h => by simp [Zps, Zxa] at h
noncomputable def iIsz (k : Int) (v : Value) : Bool := match v with
 | .int i _ => i == k
 | _ => false
theorem Ziw {k : Int} {v : Value} (h : iIsz k v = true) : ∃ t, v = .int k t := by
 cases v with
 | int i t => exact ⟨t, by rw [eq_of_beq (show (i == k) = true from h)]⟩
 | _ => cases h
theorem Zky {k : Int} {t : Tok} : iIsz k (.int k t) = true := beq_self_eq_true k
theorem Zeu {k : Int} {v : Value} (h : iIsz k v = true) : Zps k v = true := by
 obtain ⟨t, rfl⟩ := Ziw h
 exact beq_self_eq_true (some k)
noncomputable def Zsv (prog : Program) (w : World) : KeyKind prog w Int where
 is := iIsz
 hash := hashInt
 inj := fun v a b ha hb => (Zjd prog w).inj v a b (Zeu ha) (Zeu hb)
 byValue := fun k v h => (Zjd prog w).byValue k v (Zeu h)
 pyHash := fun hv h => (Zjd prog w).pyHash (Zeu hv) h
 eqBool := fun {A E s a b u v Q} hu hv h => (Zjd prog w).eqBool (a := a) (b := b) (Zeu hu) (Zeu hv) h
 «strs» := fun k x t v h => by cases h
inductive D where
 | non | bl (b : Bool) | int (i : Int) | str (x : Str) | ty (n : String) | tup (xs : List D) | fl (xs : List D) | ref (n : Nat)
inductive DO where
 | lst (xs : List D) | dic (kvs : List (D × D)) (fz : Bool) | dci (kvs : List (Int × D)) | dcn (kvs : List (D × D)) | obj (cn : Str) (fs : List (Str × D)) | exc (cn : Str)
noncomputable abbrev HD := List DO
noncomputable abbrev SD := List (Option D)
noncomputable def FzL (K : PySem.W.Frag) (H : Hp) (a : Addr) (xs : List V) : Prop :=
 (∃ o, H a = some (.frz o (.lst xs))) ∨
  ∃ (o : Obj) (its : Array Value) (n : Nat), K.lookup a = some o ∧ o.cls = .type "list" ∧ o.dict = none ∧ o.data = .seq its n ∧ its.size ≤ sizeLine ∧ Zbt xs its.toList
theorem FzL.sq {K : PySem.W.Frag} {H : Hp} {a : Addr} {xs : List V} (h : FzL K H a xs) : SqL K H a xs := by
 rcases h with h | h
 ·exact .inl (.inr h)
 ·exact .inr h
noncomputable def Zut (n : String) : Bool := n == "bool" || n == "int" || n == "str" || n == "tuple" || n == "list"
mutual
noncomputable def Rep (K : PySem.W.Frag) (H : Hp) (ι : List Addr) : D -> V -> Prop
 | .non, v => v = .non
 | .bl b, v => v = .bl b
 | .int i, v => v = .int i
 | .str x, v => v = .str x
 | .ty n, v => (Zut n = true ∧ v = .ty n) ∨ (Zut n = false ∧ ∃ a, v = .ref a ∧ PySem.W.nsIn K mainGlobals (Str.ofString n) = some (some (.ref a)))
 | .tup ds, v => ∃ a vs, v = .ref a ∧ SqT K H a vs ∧ Zkz K H ι ds vs
 | .fl ds, v => ∃ a vs, v = .ref a ∧ FzL K H a vs ∧ Zkz K H ι ds vs
 | .ref n, v => ∃ a, v = .ref a ∧ ι[n]? = some a
noncomputable def Zkz (K : PySem.W.Frag) (H : Hp) (ι : List Addr) : List D -> List V -> Prop
 | [], vs => vs = []
 | d :: ds, vs => ∃ v r, vs = v :: r ∧ Rep K H ι d v ∧ Zkz K H ι ds r
end
section
variable {α β : Type} {F G : α -> β -> Prop}
theorem Prd.len : ∀ {xs : List α} {us : List β}, Paired F xs us -> xs.length = us.length
 | _, _, .nil => rfl
 | _, _, .cons _ t => by simp [Prd.len t]
theorem Prd.get : ∀ {xs : List α} {us : List β} {i : Nat} {x : α}, Paired F xs us -> xs[i]? = some x -> ∃ u, us[i]? = some u ∧ F x u
 | _, _, _, _, .nil, e => by simp at e
 | _, _, 0, _, .cons r _, e => by simp at e; subst e; exact ⟨_, rfl, r⟩
 | _, _, i + 1, x, .cons _ t, e => by
  obtain ⟨u, h1, h2⟩ := Prd.get (i := i) (x := x) t (by simpa using e)
  exact ⟨u, by simpa using h1, h2⟩
theorem Prd.append : ∀ {xs ys : List α} {us ws : List β}, Paired F xs us -> Paired F ys ws -> Paired F (xs ++ ys) (us ++ ws)
 | _, _, _, _, .nil, s => s
 | _, _, _, _, .cons r t, s => .cons r (Prd.append t s)
theorem Prd.take : ∀ {xs : List α} {us : List β} (n : Nat), Paired F xs us -> Paired F (xs.take n) (us.take n)
 | _, _, 0, _ => .nil
 | _, _, _ + 1, .nil => .nil
 | _, _, n + 1, .cons r t => .cons r (Prd.take n t)
theorem Prd.drop : ∀ {xs : List α} {us : List β} (n : Nat), Paired F xs us -> Paired F (xs.drop n) (us.drop n)
 | _, _, 0, r => r
 | _, _, _ + 1, .nil => .nil
 | _, _, n + 1, .cons _ t => Prd.drop n t
theorem Prd.rep {xs : List α} {us : List β} (h : Paired F xs us) : ∀ k : Nat, Paired F (List.replicate k xs).flatten (List.replicate k us).flatten
 | 0 => .nil
 | k + 1 => by
  rw [List.replicate_succ, List.flatten_cons, List.replicate_succ, List.flatten_cons]
  exact Prd.append h (Prd.rep h k)
theorem Prd.imp : ∀ {xs : List α} {us : List β}, Paired F xs us -> (∀ a b, a ∈ xs -> F a b -> G a b) -> Paired G xs us
 | _, _, .nil, _ => .nil
 | _, _, .cons r t, f => .cons (f _ _ (by simp) r) (Prd.imp t fun a b h => f a b (by simp [h]))
end
section
variable {K : PySem.W.Frag} {H H' : Hp} {ι ι' : List Addr}
theorem Zc0 : ∀ {ds : List D} {vs : List V}, Zkz K H ι ds vs ↔ Paired (Rep K H ι) ds vs
 | [], vs => by
  constructor
  ·intro h; rw [Zkz] at h; subst h; exact .nil
  ·intro h; cases h; rw [Zkz]
 | d :: ds, vs => by
  constructor
  ·intro h; rw [Zkz] at h
   obtain ⟨v, r, rfl, h1, h2⟩ := h
   exact .cons h1 (Zc0.mp h2)
  ·intro h
   cases h with
   | cons h1 h2 => rw [Zkz]; exact ⟨_, _, rfl, h1, Zc0.mpr h2⟩
@[simp] theorem rep_non {v : V} : Rep K H ι .non v ↔ v = .non := by rw [Rep]
@[simp] theorem rep_bl {b : Bool} {v : V} : Rep K H ι (.bl b) v ↔ v = .bl b := by rw [Rep]
@[simp] theorem rep_int {i : Int} {v : V} : Rep K H ι (.int i) v ↔ v = .int i := by rw [Rep]
@[simp] theorem rep_str {x : Str} {v : V} : Rep K H ι (.str x) v ↔ v = .str x := by rw [Rep]
theorem Zu0 {n : String} {v : V} (h : Zut n = true) : Rep K H ι (.ty n) v ↔ v = .ty n := by rw [Rep]; simp [h]
theorem Zul {n : String} {v : V} (h : Zut n = false) : Rep K H ι (.ty n) v ↔ ∃ a, v = .ref a ∧ PySem.W.nsIn K mainGlobals (Str.ofString n) = some (some (.ref a)) := by rw [Rep]; simp [h]
theorem Zbj {ds : List D} {v : V} : Rep K H ι (.tup ds) v ↔ ∃ a vs, v = .ref a ∧ SqT K H a vs ∧ Paired (Rep K H ι) ds vs := by
 rw [Rep]
 constructor
 ·rintro ⟨a, vs, h1, h2, h3⟩; exact ⟨a, vs, h1, h2, Zc0.mp h3⟩
 ·rintro ⟨a, vs, h1, h2, h3⟩; exact ⟨a, vs, h1, h2, Zc0.mpr h3⟩
theorem Zfo {ds : List D} {v : V} : Rep K H ι (.fl ds) v ↔ ∃ a vs, v = .ref a ∧ FzL K H a vs ∧ Paired (Rep K H ι) ds vs := by
 rw [Rep]
 constructor
 ·rintro ⟨a, vs, h1, h2, h3⟩; exact ⟨a, vs, h1, h2, Zc0.mp h3⟩
 ·rintro ⟨a, vs, h1, h2, h3⟩; exact ⟨a, vs, h1, h2, Zc0.mpr h3⟩
theorem Zau {n : Nat} {v : V} : Rep K H ι (.ref n) v ↔ ∃ a, v = .ref a ∧ ι[n]? = some a := by rw [Rep]
structure Lw (K : PySem.W.Frag) (H : Hp) (ι : List Addr) (H' : Hp) (ι' : List Addr) : Prop where
 tup : ∀ a xs, SqT K H a xs -> SqT K H' a xs
 fz : ∀ a xs, FzL K H a xs -> FzL K H' a xs
 pre : ∃ t, ι' = ι ++ t
 fr : ∀ a o u, H a = some (.frz o u) -> H' a = some (.frz o u)
structure Le (K : PySem.W.Frag) (H : Hp) (ι : List Addr) (H' : Hp) (ι' : List Addr) : Prop extends Lw K H ι H' ι' where
 frame : ∀ a o, H a = some o -> a ∉ ι -> H' a = some o ∧ a ∉ ι'
theorem Le.refl : Le K H ι H ι := ⟨⟨fun _ _ h => h, fun _ _ h => h, ⟨[], by simp⟩, fun _ _ _ h => h⟩, fun _ _ h n => ⟨h, n⟩⟩
theorem Le.trans {H1 H2 : Hp} {ι1 ι2 : List Addr} (a : Le K H ι H1 ι1) (b : Le K H1 ι1 H2 ι2) : Le K H ι H2 ι2 := by
 refine ⟨⟨fun x xs h => b.tup x xs (a.tup x xs h), fun x xs h => b.fz x xs (a.fz x xs h), ?_, fun x o u h => b.fr x o u (a.fr x o u h)⟩, fun x o h n => ?_⟩
 ·obtain ⟨t, e⟩ := a.pre
  obtain ⟨u, e'⟩ := b.pre
  exact ⟨t ++ u, by rw [e', e, List.append_assoc]⟩
 ·obtain ⟨h1, n1⟩ := a.frame x o h n
  exact b.frame x o h1 n1
theorem Lw.get (l : Lw K H ι H' ι') {n : Nat} {a : Addr} (h : ι[n]? = some a) : ι'[n]? = some a := by
 obtain ⟨t, e⟩ := l.pre
 rw [e, List.getElem?_append_left (by exact (List.getElem?_eq_some_iff.mp h).1), h]
mutual
theorem Rep.monoW (l : Lw K H ι H' ι') : ∀ {d : D} {v : V}, Rep K H ι d v -> Rep K H' ι' d v
 | .non, v, h => by rw [Rep] at h ⊢; exact h
 | .bl _, v, h => by rw [Rep] at h ⊢; exact h
 | .int _, v, h => by rw [Rep] at h ⊢; exact h
 | .str _, v, h => by rw [Rep] at h ⊢; exact h
 | .ty _, v, h => by rw [Rep] at h ⊢; exact h
 | .tup ds, v, h => by
  rw [Rep] at h ⊢
  obtain ⟨a, vs, h1, h2, h3⟩ := h
  exact ⟨a, vs, h1, l.tup a vs h2, Zkz.monoW l h3⟩
 | .fl ds, v, h => by
  rw [Rep] at h ⊢
  obtain ⟨a, vs, h1, h2, h3⟩ := h
  exact ⟨a, vs, h1, l.fz a vs h2, Zkz.monoW l h3⟩
 | .ref n, v, h => by
  rw [Rep] at h ⊢
  obtain ⟨a, h1, h2⟩ := h
  exact ⟨a, h1, l.get h2⟩
theorem Zkz.monoW (l : Lw K H ι H' ι') : ∀ {ds : List D} {vs : List V}, Zkz K H ι ds vs -> Zkz K H' ι' ds vs
 | [], vs, h => by rw [Zkz] at h ⊢; exact h
 | d :: ds, vs, h => by
  rw [Zkz] at h ⊢
  obtain ⟨v, r, h1, h2, h3⟩ := h
  exact ⟨v, r, h1, Rep.monoW l h2, Zkz.monoW l h3⟩
end
theorem Rep.mono (l : Le K H ι H' ι') {d : D} {v : V} (h : Rep K H ι d v) : Rep K H' ι' d v := Rep.monoW l.toLw h
theorem Prd.monoW (l : Lw K H ι H' ι') {ds : List D} {vs : List V} (h : Paired (Rep K H ι) ds vs) : Paired (Rep K H' ι') ds vs := Zc0.mp (Zkz.monoW l (Zc0.mpr h))
theorem Prd.mono (l : Le K H ι H' ι') {ds : List D} {vs : List V} (h : Paired (Rep K H ι) ds vs) : Paired (Rep K H' ι') ds vs := Prd.monoW l.toLw h
noncomputable def nkOf : D -> Option Int
 | .int i => some i
 | .bl b => some (if b then 1 else 0)
 | _ => none
noncomputable def Zzv : List D -> Option (List Int)
 | [] => some []
 | d :: r => (nkOf d).bind fun k => (Zzv r).map fun ks => k :: ks
noncomputable def nk : D -> Option (List Int)
 | .tup ds => Zzv ds
 | _ => none
noncomputable def Zzn (ks : List Int) : Int := reduceHash (Builtin.Tuple.tupleHashOf (ks.map hashInt))
noncomputable def Zzs (a : Addr) (xs : List (List Int × Addr × Value)) (h : Heap) : Prop :=
 ∃ o es ep, h.get? a = some o ∧ o.ExactDict ∧ o.data = .dict es ep ∧ es.toList = xs.map (fun x => (⟨Zzn x.1, .ref x.2.1, x.2.2⟩ : DictEntry)) ∧ (xs.map (·.1)).Nodup
noncomputable def KRep (K : PySem.W.Frag) (H : Hp) (ι : List Addr) (p : D × D) (x : List Int × Addr × Value) : Prop := nk p.1 = some x.1 ∧ Rep K H ι p.1 (.ref x.2.1) ∧ ∃ v, Zb2 v x.2.2 ∧ Rep K H ι p.2 v
noncomputable def Zd5 (a : Addr) (xs : List (Int × Value)) (h : Heap) : Prop := ∀ (p : Program) (w : World), h.DictOf (Zsv p w) a xs
theorem Zd5.keep {a : Addr} {xs : List (Int × Value)} {h1 h2 : Heap} (d : Zd5 a xs h1) (k : ∀ o, h1.get? a = some o -> h2.get? a = some o) : Zd5 a xs h2 := fun p w => by
 obtain ⟨o, es, ep, e, r⟩ := d p w
 exact ⟨o, es, ep, k o e, r⟩
noncomputable def Zs5 (K : PySem.W.Frag) (H : Hp) (ι : List Addr) (p : Int × D) (x : Int × Value) : Prop := p.1 = x.1 ∧ ∃ v, Zb2 v x.2 ∧ Rep K H ι p.2 v
noncomputable def nk2 : D -> Option (Int × List Int)
 | .tup [a, b] => (nkOf a).bind fun i => (nk b).map fun ks => (i, ks)
 | _ => none
noncomputable def nHash (k : Int × List Int) : Int := reduceHash (Builtin.Tuple.tupleHashOf [hashInt k.1, Zzn k.2])
noncomputable def DcnAt (a : Addr) (xs : List ((Int × List Int) × Addr × Value)) (h : Heap) : Prop :=
 ∃ o es ep, h.get? a = some o ∧ o.ExactDict ∧ o.data = .dict es ep ∧ es.toList = xs.map (fun x => (⟨nHash x.1, .ref x.2.1, x.2.2⟩ : DictEntry)) ∧ (xs.map (·.1)).Nodup
noncomputable def NRep (K : PySem.W.Frag) (H : Hp) (ι : List Addr) (p : D × D) (x : (Int × List Int) × Addr × Value) : Prop := nk2 p.1 = some x.1 ∧ Rep K H ι p.1 (.ref x.2.1) ∧ ∃ v, Zb2 v x.2.2 ∧ Rep K H ι p.2 v
noncomputable def FRep (K : PySem.W.Frag) (H : Hp) (ι : List Addr) (p : Str × D) (x : Str × V) : Prop := p.1 = x.1 ∧ Rep K H ι p.2 x.2
noncomputable def Zge (a C : Addr) (h : Heap) : Prop := ∃ o, h.get? a = some o ∧ o.cls = .ref C
noncomputable def Zor (K : PySem.W.Frag) (H : Hp) (ι : List Addr) (a : Addr) : DO -> Prop
 | .lst ds => ∃ vs, H a = some (.lst vs) ∧ Paired (Rep K H ι) ds vs
 | .dic kvs fz => (a == sysModules) = false ∧ kvs.length ≤ sizeLine ∧ ∃ xs, (if fz = true then ∃ o, H a = some (.frz o (.ext (Zzs a xs))) else H a = some (.ext (Zzs a xs))) ∧ Paired (KRep K H ι) kvs xs
 | .dci kvs => (a == sysModules) = false ∧ kvs.length ≤ sizeLine ∧ ∃ xs, H a = some (.ext (Zd5 a xs)) ∧ Paired (Zs5 K H ι) kvs xs
 | .dcn kvs => (a == sysModules) = false ∧ kvs.length ≤ sizeLine ∧ ∃ xs, H a = some (.ext (DcnAt a xs)) ∧ Paired (NRep K H ι) kvs xs
 | .obj cn fs => ∃ C dx xs, PySem.W.nsIn K mainGlobals cn = some (some (.ref C)) ∧ H a = some (.ins C dx xs) ∧ Paired (FRep K H ι) fs xs
 | .exc cn => ∃ C, PySem.W.nsIn K mainGlobals cn = some (some (.ref C)) ∧ H a = some (.ext (Zge a C))
structure HRep (K : PySem.W.Frag) (H : Hp) (ι : List Addr) (Hd : HD) : Prop where
 len : ι.length = Hd.length
 nd : ι.Nodup
 obj : ∀ (n : Nat) (a : Addr) (o : DO), ι[n]? = some a -> Hd[n]? = some o -> Zor K H ι a o
theorem Zor.there {a : Addr} {o : DO} (h : Zor K H ι a o) : H a ≠ none := by
 cases o with
 | lst ds => obtain ⟨vs, e, _⟩ := h; rw [e]; simp
 | dic kv fz =>
  obtain ⟨_, _, xs, e, _⟩ := h
  cases fz with
  | true => rw [if_pos rfl] at e; obtain ⟨ob, e⟩ := e; rw [e]; simp
  | false => rw [if_neg (by simp)] at e; rw [e]; simp
 | dci kv => obtain ⟨_, _, xs, e, _⟩ := h; rw [e]; simp
 | dcn kv => obtain ⟨_, _, xs, e, _⟩ := h; rw [e]; simp
 | obj cn fs => obtain ⟨C, dx, xs, _, e, _⟩ := h; rw [e]; simp
 | exc cn => obtain ⟨C, _, e⟩ := h; rw [e]; simp
theorem Zor.step {a : Addr} {o : DO} (h : Zor K H ι a o) (l : Lw K H ι H' ι') (e : H' a = H a) : Zor K H' ι' a o := by
 cases o with
 | lst ds => obtain ⟨vs, q, r⟩ := h; exact ⟨vs, by rw [e, q], Prd.monoW l r⟩
 | dic kv fz => obtain ⟨h1, h2, xs, q, r⟩ := h; exact ⟨h1, h2, xs, by rw [e]; exact q, Prd.imp r fun p x _ z => ⟨z.1, Rep.monoW l z.2.1, let ⟨v, z1, z2⟩ := z.2.2; ⟨v, z1, Rep.monoW l z2⟩⟩⟩
 | dci kv => obtain ⟨h1, h2, xs, q, r⟩ := h; exact ⟨h1, h2, xs, by rw [e]; exact q, Prd.imp r fun p x _ z => ⟨z.1, let ⟨v, z1, z2⟩ := z.2; ⟨v, z1, Rep.monoW l z2⟩⟩⟩
 | dcn kv => obtain ⟨h1, h2, xs, q, r⟩ := h; exact ⟨h1, h2, xs, by rw [e]; exact q, Prd.imp r fun p x _ z => ⟨z.1, Rep.monoW l z.2.1, let ⟨v, z1, z2⟩ := z.2.2; ⟨v, z1, Rep.monoW l z2⟩⟩⟩
 | obj cn fs => obtain ⟨C, dx, xs, h1, q, r⟩ := h; exact ⟨C, dx, xs, h1, by rw [e]; exact q, Prd.imp r fun p x _ z => ⟨z.1, Rep.monoW l z.2⟩⟩
 | exc cn => obtain ⟨C, h1, q⟩ := h; exact ⟨C, h1, by rw [e]; exact q⟩
theorem HRep.at {Hd : HD} (h : HRep K H ι Hd) {n : Nat} {o : DO} (e : Hd[n]? = some o) : ∃ a, ι[n]? = some a ∧ Zor K H ι a o := by
 have hl : n < ι.length := by rw [h.len]; exact (List.getElem?_eq_some_iff.mp e).1
 exact ⟨ι[n], by simp [hl], h.obj n _ o (by simp [hl]) e⟩
theorem HRep.has {Hd : HD} (h : HRep K H ι Hd) {a : Addr} (hm : a ∈ ι) : ∃ (n : Nat) (o : DO), ι[n]? = some a ∧ Hd[n]? = some o ∧ Zor K H ι a o := by
 obtain ⟨n, hn⟩ := List.mem_iff_getElem?.mp hm
 have hl : n < Hd.length := by rw [← h.len]; exact (List.getElem?_eq_some_iff.mp hn).1
 exact ⟨n, Hd[n], hn, by simp [hl], h.obj n a Hd[n] hn (by simp [hl])⟩
theorem HRep.fresh {Hd : HD} (h : HRep K H ι Hd) {p : Addr} (hp : H p = none) : p ∉ ι := fun hm => by
 obtain ⟨_, _, _, _, o⟩ := h.has hm
 exact o.there hp
theorem HRep.keep {Hd : HD} (h : HRep K H ι Hd) (l : Lw K H ι H' ι) (e : ∀ a ∈ ι, H' a = H a) : HRep K H' ι Hd :=
 ⟨h.len, h.nd, fun n a o h1 h2 => (h.obj n a o h1 h2).step l (e a (List.mem_of_getElem? h1))⟩
theorem Lw.fresh {p : Addr} (hp : H p = none) (o : HO) : Lw K H ι (upd H p o) ι where
 tup := fun a xs h => by
  rcases h with (h | ⟨ob, h⟩) | h
  ·exact .inl (.inl (by rw [Zah (Zai h hp)]; exact h))
  ·exact .inl (.inr ⟨ob, by rw [Zah (Zai h hp)]; exact h⟩)
  ·exact .inr h
 fz := fun a xs h => by
  rcases h with ⟨ob, h⟩ | h
  ·exact .inl ⟨ob, by rw [Zah (Zai h hp)]; exact h⟩
  ·exact .inr h
 pre := ⟨[], by simp⟩
 fr := fun a ob u h => by rw [Zah (Zai h hp)]; exact h
theorem Le.fresh {p : Addr} (hp : H p = none) (o : HO) : Le K H ι (upd H p o) ι := ⟨Lw.fresh hp o, fun a ob h n => ⟨by rw [Zah (Zai h hp)]; exact h, n⟩⟩
theorem Le.fresh1 {p : Addr} (hp : H p = none) (o : HO) : Le K H ι (upd H p o) (ι ++ [p]) where
 tup := (Le.fresh (ι := ι) hp o).tup
 fz := (Le.fresh (ι := ι) hp o).fz
 pre := ⟨[p], rfl⟩
 fr := (Le.fresh (K := K) (ι := ι) hp o).fr
 frame := fun a ob h n => ⟨by rw [Zah (Zai h hp)]; exact h, by
  have := Zai h hp
  simp [n, this]⟩
theorem HRep.tup {Hd : HD} (h : HRep K H ι Hd) {p : Addr} (hp : H p = none) (o : HO) : HRep K (upd H p o) ι Hd :=
 h.keep (Lw.fresh hp o) fun a ha => Zah fun z => by subst z; exact h.fresh hp ha
theorem HRep.new {Hd : HD} (h : HRep K H ι Hd) {p : Addr} (hp : H p = none) {u : HO} {o : DO} (ho : Zor K (upd H p u) (ι ++ [p]) p o) : HRep K (upd H p u) (ι ++ [p]) (Hd ++ [o]) := by
 have hf := h.fresh hp
 refine ⟨by simp [h.len], by simp only [List.nodup_append, h.nd, true_and]; exact ⟨by simp, fun a ha b hb e => hf (by simp at hb; rw [← hb, ← e]; exact ha)⟩, fun n a ob h1 h2 => ?_⟩
 by_cases hn : n < ι.length
 ·rw [List.getElem?_append_left hn] at h1
  rw [List.getElem?_append_left (by rw [← h.len]; exact hn)] at h2
  have ha : a ∈ ι := List.mem_of_getElem? h1
  exact (h.obj n a ob h1 h2).step (Le.fresh1 hp u).toLw (Zah fun z => by subst z; exact hf ha)
 ·rw [List.getElem?_append_right (by omega)] at h1
  rw [List.getElem?_append_right (by rw [← h.len]; omega)] at h2
  rw [← h.len] at h2
  have : n - ι.length = 0 := by
   have := (List.getElem?_eq_some_iff.mp h1).1
   simp at this; omega
  rw [this] at h1 h2
  simp at h1 h2
  subst h1; subst h2
  exact ho
noncomputable def Yab : HO -> Prop
 | .lst _ => True
 | .ext _ => True
 | .ins _ _ _ => True
 | _ => False
theorem Le.upd {a : Addr} (ha : a ∈ ι) {o : HO} (e : H a = some o) (lo : Yab o) (u : HO) : Le K H ι (upd H a u) ι where
 tup := fun b xs h => by
  rcases h with (h | ⟨ob, h⟩) | h
  ·refine .inl (.inl ?_)
   rw [Zah (Zla h e (by rintro rfl; exact lo))]; exact h
  ·refine .inl (.inr ⟨ob, ?_⟩)
   rw [Zah (Zla h e (by rintro rfl; exact lo))]; exact h
  ·exact .inr h
 fz := fun b xs h => by
  rcases h with ⟨ob, h⟩ | h
  ·refine .inl ⟨ob, ?_⟩
   rw [Zah (Zla h e (by rintro rfl; exact lo))]; exact h
  ·exact .inr h
 pre := ⟨[], by simp⟩
 fr := fun b ob w h => by rw [Zah (Zla h e (by rintro rfl; exact lo))]; exact h
 frame := fun b ob h n => ⟨by rw [Zah (by rintro rfl; exact n ha)]; exact h, n⟩
theorem HRep.upd {Hd : HD} (h : HRep K H ι Hd) {n : Nat} {a : Addr} (hn : ι[n]? = some a) {o u : HO} (e : H a = some o) (lo : Yab o) {ob : DO} (ho : Zor K (upd H a u) ι a ob) : HRep K (upd H a u) ι (Hd.set n ob) := by
 refine ⟨by simp [h.len], h.nd, fun m b oc h1 h2 => ?_⟩
 by_cases hm : n = m
 ·subst hm
  rw [hn] at h1; cases h1
  rw [List.getElem?_set] at h2
  rw [if_pos rfl] at h2
  split at h2
  ·cases h2; exact ho
  ·cases h2
 ·rw [List.getElem?_set_ne hm] at h2
  have hb : b ≠ a := fun z => by
   subst z
   have l1 := (List.getElem?_eq_some_iff.mp hn).1
   exact hm ((List.getElem?_inj l1 h.nd).mp (hn.trans h1.symm))
  exact (h.obj m b oc h1 h2).step (Le.upd (List.mem_of_getElem? hn) e lo u).toLw (Zah hb)
theorem HRep.add {Hd : HD} (h : HRep K H ι Hd) {p : Addr} (hp : p ∉ ι) {o : DO} (ho : Zor K H (ι ++ [p]) p o) : HRep K H (ι ++ [p]) (Hd ++ [o]) := by
 refine ⟨by simp [h.len], by simp only [List.nodup_append, h.nd, true_and]; exact ⟨by simp, fun a ha b hb e => hp (by simp at hb; rw [← hb, ← e]; exact ha)⟩, fun n a ob h1 h2 => ?_⟩
 by_cases hn : n < ι.length
 ·rw [List.getElem?_append_left hn] at h1
  rw [List.getElem?_append_left (by rw [← h.len]; exact hn)] at h2
  exact (h.obj n a ob h1 h2).step ⟨fun _ _ z => z, fun _ _ z => z, ⟨[p], rfl⟩, fun _ _ _ z => z⟩ rfl
 ·rw [List.getElem?_append_right (by omega)] at h1
  rw [List.getElem?_append_right (by rw [← h.len]; omega)] at h2
  rw [← h.len] at h2
  have : n - ι.length = 0 := by
   have := (List.getElem?_eq_some_iff.mp h1).1
   simp at this; omega
  rw [this] at h1 h2
  simp at h1 h2
  subst h1; subst h2
  exact ho
theorem Lw.side {p : Addr} {ys : List V} (hp : H p = some (.lst ys)) (u : HO) : Lw K H ι (L2.upd H p u) ι where
 tup := fun a xs h => by
  rcases h with (h | ⟨ob, h⟩) | h
  ·refine .inl (.inl ?_)
   rw [Zah (Zla h hp (by intro z; cases z))]; exact h
  ·refine .inl (.inr ⟨ob, ?_⟩)
   rw [Zah (Zla h hp (by intro z; cases z))]; exact h
  ·exact .inr h
 fz := fun a xs h => by
  rcases h with ⟨ob, h⟩ | h
  ·refine .inl ⟨ob, ?_⟩
   rw [Zah (Zla h hp (by intro z; cases z))]; exact h
  ·exact .inr h
 pre := ⟨[], by simp⟩
 fr := fun a ob w h => by rw [Zah (Zla h hp (by intro z; cases z))]; exact h
theorem Lw.trans {H1 H2 : Hp} {ι1 ι2 : List Addr} (a : Lw K H ι H1 ι1) (b : Lw K H1 ι1 H2 ι2) : Lw K H ι H2 ι2 := by
 refine ⟨fun x xs h => b.tup x xs (a.tup x xs h), fun x xs h => b.fz x xs (a.fz x xs h), ?_, fun x o u h => b.fr x o u (a.fr x o u h)⟩
 obtain ⟨t, e⟩ := a.pre
 obtain ⟨u, e'⟩ := b.pre
 exact ⟨t ++ u, by rw [e', e, List.append_assoc]⟩
theorem Le.side {H1 : Hp} {ι1 : List Addr} {p : Addr} {ys : List V} (l : Le K H ι H1 ι1) (h0 : H p = none) (h1 : H1 p = some (.lst ys)) (u : HO) : Le K H ι (L2.upd H1 p u) ι1 :=
 ⟨l.toLw.trans (Lw.side h1 u), fun a o h n => by
  obtain ⟨q, m⟩ := l.frame a o h n
  exact ⟨by rw [Zah (Zai h h0)]; exact q, m⟩⟩
structure SRep (K : PySem.W.Frag) (H : Hp) (ι : List Addr) (σ : L2.St) (σd : SD) : Prop where
 len : σ.length = σd.length
 var : ∀ (i : Nat) (d : D), σd[i]? = some (some d) -> ∃ v, σ[i]? = some (some v) ∧ Rep K H ι d v
theorem SRep.mono {σ : L2.St} {σd : SD} (s : SRep K H ι σ σd) (l : Le K H ι H' ι') : SRep K H' ι' σ σd :=
 ⟨s.len, fun i d h => let ⟨v, h1, h2⟩ := s.var i d h; ⟨v, h1, h2.mono l⟩⟩
theorem SRep.set {σ : L2.St} {σd : SD} {d : D} {v : V} (s : SRep K H ι σ σd) (r : Rep K H ι d v) (i : Nat) : SRep K H ι (σ.set i (some v)) (σd.set i (some d)) := by
 refine ⟨by simp [s.len], fun j e h => ?_⟩
 by_cases hj : i = j
 ·subst hj
  rw [List.getElem?_set] at h ⊢
  rw [if_pos rfl] at h ⊢
  split at h
  ·rename_i hl
   rw [if_pos (by rw [s.len]; exact hl)]
   cases h
   exact ⟨v, rfl, r⟩
  ·cases h
 ·rw [List.getElem?_set_ne hj] at h ⊢
  exact s.var j e h
end
noncomputable def Zm0 : Expr -> Bool
 | .Starred _ _ => false
 | _ => true
theorem Zao {e : Expr} {es : List Expr} {env : Env} (h : Zm0 e = true) : starEach (e :: es) env = (false, eval e env) :: starEach es env := by
 cases e <;> first | rfl | cases h
theorem Zbs {pos : Pos} {env : Env} : ∀ {es : List Expr}, es.all Zm0 = true -> (backTo pos (starEach es env)).any (·.1) = false
 | [], _ => rfl
 | e :: es, h => by
  rw [List.all_cons, Bool.and_eq_true] at h
  rw [Zao h.1]
  show (false || (backTo pos (starEach es env)).any (·.1)) = false
  rw [Zbs h.2]
  rfl
theorem Zs6 {pos : Pos} {env : Env} {es : List Expr} (h : es.all Zm0 = true) (hl : es.length < 30) : ((backTo pos (starEach es env)).all (fun x => !x.1) && (backToKw pos (keywordEach [] env)).all (fun x => x.1.isSome)
   && decide (es.length + ([] : List Keyword).length + (if ([] : List Keyword).isEmpty then 0 else 1) < 30)) = true := by
 have h1 := Zbs (pos := pos) (env := env) h
 have h2 : (backTo pos (starEach es env)).all (fun x => !x.1) = true := by
  rw [List.all_eq_true]
  intro x hx
  rw [List.any_eq_false] at h1
  have := h1 x hx
  simpa using this
 have h3 : decide (es.length + ([] : List Keyword).length + (if ([] : List Keyword).isEmpty then 0 else 1) < 30) = true := by
  rw [decide_eq_true_eq]
  simpa using hl
 rw [h2, h3]
 rfl
noncomputable abbrev EF := SD -> HD -> Option (D × HD)
noncomputable abbrev TF := SD -> HD -> Option (Bool × HD)
noncomputable abbrev AF := SD -> HD -> Option (List D × HD)
inductive FD where
 | nx | bk | ct | rt (d : D)
noncomputable abbrev SF := SD -> HD -> Option (FD × SD × HD)
noncomputable abbrev GF := D -> SD -> HD -> Option (SD × HD)
noncomputable abbrev FF := List D -> HD -> Option (D × HD)
noncomputable abbrev F2 := D -> D -> HD -> Option (D × HD)
noncomputable def QE (K : PySem.W.Frag) (H : Hp) (ι : List Addr) (d : D) (Hd' : HD) (Q : VK) : Prop := ∀ v H' ι', Le K H ι H' ι' -> HRep K H' ι' Hd' -> Rep K H' ι' d v -> Q v H'
noncomputable def rdE (K : PySem.W.Frag) (f : EF) : TE := fun σ H Q => ∃ ι σd Hd d Hd', SRep K H ι σ σd ∧ HRep K H ι Hd ∧ f σd Hd = some (d, Hd') ∧ QE K H ι d Hd' Q
noncomputable def rdT (K : PySem.W.Frag) (f : TF) : TT := fun σ H Q => ∃ ι σd Hd b Hd', SRep K H ι σ σd ∧ HRep K H ι Hd ∧ f σd Hd = some (b, Hd') ∧ ∀ H' ι', Le K H ι H' ι' -> HRep K H' ι' Hd' -> Q b H'
noncomputable def rdA (K : PySem.W.Frag) (f : AF) : TA := fun σ H Q => ∃ ι σd Hd ds Hd', SRep K H ι σ σd ∧ HRep K H ι Hd ∧ f σd Hd = some (ds, Hd') ∧ ∀ vs H' ι', Le K H ι H' ι' -> HRep K H' ι' Hd' -> Paired (Rep K H' ι') ds vs -> Q vs H'
noncomputable def QS (K : PySem.W.Frag) (H : Hp) (ι : List Addr) (fl : FD) (σd' : SD) (Hd' : HD) (E : Ends) : Prop := ∀ σ' H' ι', Le K H ι H' ι' -> HRep K H' ι' Hd' -> SRep K H' ι' σ' σd' →
 match fl with
 | .nx => E.nx σ' H'
 | .bk => E.bk σ' H'
 | .ct => E.ct σ' H'
 | .rt d => ∀ v, Rep K H' ι' d v -> E.rt v H'
noncomputable def rdS (K : PySem.W.Frag) (f : SF) : TS := fun E σ H => ∃ ι σd Hd fl σd' Hd', SRep K H ι σ σd ∧ HRep K H ι Hd ∧ f σd Hd = some (fl, σd', Hd') ∧ QS K H ι fl σd' Hd' E
noncomputable def rdG (K : PySem.W.Frag) (g : GF) : TG := fun v σ H Q => ∃ ι σd Hd d σd' Hd', SRep K H ι σ σd ∧ HRep K H ι Hd ∧ Rep K H ι d v ∧ g d σd Hd = some (σd', Hd') ∧
 ∀ σ' H' ι', Le K H ι H' ι' -> HRep K H' ι' Hd' -> SRep K H' ι' σ' σd' -> Q σ' H'
noncomputable def rd2 (K : PySem.W.Frag) (g : F2) : R2 := fun x y H Q => ∃ ι dx dy Hd d Hd', HRep K H ι Hd ∧ Rep K H ι dx x ∧ Rep K H ι dy y ∧ g dx dy Hd = some (d, Hd') ∧ QE K H ι d Hd' Q
noncomputable def rd1 (K : PySem.W.Frag) (g : D -> HD -> Option (D × HD)) : V -> Hp -> VK -> Prop := fun x H Q => ∃ ι dx Hd d Hd', HRep K H ι Hd ∧ Rep K H ι dx x ∧ g dx Hd = some (d, Hd') ∧ QE K H ι d Hd' Q
noncomputable def rdC (K : PySem.W.Frag) (g : FF) : List V -> Hp -> VK -> Prop := fun vs H Q => ∃ ι ds Hd d Hd', HRep K H ι Hd ∧ Paired (Rep K H ι) ds vs ∧ g ds Hd = some (d, Hd') ∧ QE K H ι d Hd' Q
noncomputable def rdM (K : PySem.W.Frag) (g : D -> List D -> HD -> Option (D × HD)) : V -> List V -> Hp -> VK -> Prop := fun v vs H Q => ∃ ι x ds Hd d Hd', HRep K H ι Hd ∧ Rep K H ι x v ∧ Paired (Rep K H ι) ds vs ∧ g x ds Hd = some (d, Hd') ∧ QE K H ι d Hd' Q
noncomputable def PEf (X : Cx) (e : Expr) (f : EF) : Prop := PE X e (rdE X.K f)
noncomputable def PTf (X : Cx) (e : Expr) (f : TF) : Prop := PT X e (rdT X.K f)
noncomputable def PWf (X : Cx) (e : Expr) (f : TF) : Prop := PW X e (rdT X.K f)
noncomputable def PAf (X : Cx) (es : List Expr) (f : AF) : Prop := PA X es (rdA X.K f)
noncomputable def PSf (X : Cx) (st : Stmt) (f : SF) : Prop := PS X st (rdS X.K f)
noncomputable def Zlr (X : Cx) (st : List Stmt) (f : SF) : Prop := PSs X st (rdS X.K f)
noncomputable def PGf (X : Cx) (tg : Expr) (g : GF) : Prop := PG X tg (rdG X.K g)
noncomputable def OpF (X : Cx) (f : Value -> Value -> Sem Value) (g : F2) : Prop := OpR X f (rd2 X.K g)
noncomputable def UnF (X : Cx) (f : Value -> Sem Value) (g : D -> HD -> Option (D × HD)) : Prop := UnR X f (rd1 X.K g)
noncomputable def Zig (X : Cx) (f : Value) (g : FF) : Prop := Zf1 X f (rdC X.K g)
noncomputable def IxF (X : Cx) (g : F2) : Prop := IxR X (rd2 X.K g)
noncomputable def MtF (X : Cx) (id : String) (g : D -> List D -> HD -> Option (D × HD)) : Prop := MtR X id (rdM X.K g)
section
variable {X : Cx} {e a b c : Expr} {es : List Expr} {pos : Pos} {st : Stmt} {sts : List Stmt}
theorem PEi {t t' : TE} (h : PE X e t) (i : ∀ σ H Q, t' σ H Q -> t σ H Q) : PE X e t' := fun pins s σ H Q I q => h pins s σ H Q I (i σ H Q q)
theorem PTi {t t' : TT} (h : PT X e t) (i : ∀ σ H Q, t' σ H Q -> t σ H Q) : PT X e t' := fun pins s σ H Q I q => h pins s σ H Q I (i σ H Q q)
theorem PWi {t t' : TT} (h : PW X e t) (i : ∀ σ H Q, t' σ H Q -> t σ H Q) : PW X e t' := fun wh pins s σ H Q I q => h wh pins s σ H Q I (i σ H Q q)
theorem PAi {t t' : TA} (h : PA X es t) (i : ∀ σ H Q, t' σ H Q -> t σ H Q) : PA X es t' := fun ps pins s σ H Q I q => h ps pins s σ H Q I (i σ H Q q)
theorem PSi {t t' : TS} (h : PS X st t) (i : ∀ E σ H, t' E σ H -> t E σ H) : PS X st t' := fun pins s σ H E I q => h pins s σ H E I (i E σ H q)
theorem Zx5 {t t' : TS} (h : PSs X sts t) (i : ∀ E σ H, t' E σ H -> t E σ H) : PSs X sts t' := fun pins s σ H E I q => h pins s σ H E I (i E σ H q)
theorem PGi {t t' : TG} (h : PG X e t) (i : ∀ v σ H Q, t' v σ H Q -> t v σ H Q) : PG X e t' := fun pins s σ H v u Q I r q => h pins s σ H v u Q I r (i v σ H Q q)
theorem OpRi {f : Value -> Value -> Sem Value} {t t' : R2} (h : OpR X f t) (i : ∀ x y H Q, t' x y H Q -> t x y H Q) : OpR X f t' := fun pins s σ H x y v u Q I r1 r2 q => h pins s σ H x y v u Q I r1 r2 (i x y H Q q)
noncomputable def Zac (i : Nat) : EF := fun σ H => (σ[i]?).join.map fun d => (d, H)
noncomputable def eC (d : D) : EF := fun _ H => some (d, H)
theorem Zab {i : Nat} {x : Str} (h : PE X (.Name x pos) (tVar i)) : PEf X (.Name x pos) (Zac i) := by
 refine PEi h fun σ H Q zz => ?_
 obtain ⟨ι, σd, Hd, d, Hd', s, hr, e, q⟩ := zz
 unfold Zac at e
 cases hx : σd[i]? with
 | none => rw [hx] at e; cases e
 | some o =>
  cases o with
  | none => rw [hx] at e; cases e
  | some d0 =>
   rw [hx] at e
   have e' : (d0, Hd) = (d, Hd') := Option.some.inj e
   obtain ⟨rfl, rfl⟩ := Prod.mk.inj e'
   obtain ⟨v, h1, h2⟩ := s.var i d0 hx
   exact ⟨v, h1, q v H ι Le.refl hr h2⟩
theorem Zob {v : V} {d : D} (h : PE X e (tC v)) (r : ∀ H ι, Rep X.K H ι d v) : PEf X e (eC d) := by
 refine PEi h fun σ H Q zz => ?_
 obtain ⟨ι, σd, Hd, d', Hd', s, hr, e, q⟩ := zz
 cases e
 exact q v H ι Le.refl hr (r H ι)
theorem Zag {i j} : PEf X (.Constant (.int i) j pos) (eC (.int i)) := Zob Zy7 fun _ _ => by simp
theorem Zm7 {b j} : PEf X (.Constant (.bool b) j pos) (eC (.bl b)) := Zob pe_bl fun _ _ => by simp
theorem Zdd {j} : PEf X (.Constant .none j pos) (eC .non) := Zob Yaf fun _ _ => by simp
theorem Zmc {x j} : PEf X (.Constant (.str x) j pos) (eC (.str x)) := Zob Zrp fun _ _ => by simp
theorem Zfi {x : Str} {n : String} (hg : Gl X x) (hm : X.mg x = none) (hv : bootBuiltins x = some (.type n)) (hn : x ≠ "__name__" := by decide) (hd : (x == ("__debug__" : Str)) = false := by decide) (ht : Zut n = true := by decide) : PEf X (.Name x pos) (eC (.ty n)) :=
 Zob (Zqr (v := .ty n) hg hm hv rfl hn hd) fun _ _ => (Zu0 ht).mpr rfl
noncomputable def eOp (g : F2) (fa fb : EF) : EF := fun σ H => (fa σ H).bind fun p => (fb σ p.2).bind fun q => g p.1 q.1 q.2
theorem Zsq {fa fb : EF} {g : F2} {σ : L2.St} {H : Hp} {Q : VK} {K : PySem.W.Frag} (h : rdE K (eOp g fa fb) σ H Q) : tOp (rd2 K g) (rdE K fa) (rdE K fb) σ H Q := by
 obtain ⟨ι, σd, Hd, d, Hd', s, hr, e, q⟩ := h
 obtain ⟨⟨x, H1⟩, e1, e⟩ := Zo e
 obtain ⟨⟨y, H2⟩, e2, e⟩ := Zo e
 exact ⟨ι, σd, Hd, x, H1, s, hr, e1, fun v1 H1' ι1 l1 h1 r1 => ⟨ι1, σd, H1, y, H2, s.mono l1, h1, e2, fun v2 H2' ι2 l2 h2 r2 =>
  ⟨ι2, x, y, H2, d, Hd', h2, r1.mono l2, r2, e, fun v H' ι' l h r => q v H' ι' ((l1.trans l2).trans l) h r⟩⟩⟩
theorem Zam {op : Operator} {g : F2} {fa fb : EF} (ho : OpF X (binaryOp op) g) (ha : PEf X a fa) (hb : PEf X b fb) : PEf X (.BinOp a op b pos) (eOp g fa fb) :=
 PEi (Zz8 ho ha hb) fun _ _ _ h => Zsq h
theorem Zdu {op : CmpOp} {g : F2} {fa fb : EF} (ho : OpF X (compareOp op) g) (ha : PEf X a fa) (hb : PEf X b fb) (hm : behindInMarks op b = false) : PEf X (.Compare a [op] [b] pos) (eOp g fa fb) :=
 PEi (Zwj ho ha hb hm) fun _ _ _ h => Zsq h
theorem Zbd {g : F2} {fa fb : EF} (ho : IxF X g) (ha : PEf X a fa) (hb : PEf X b fb) (hs : Zre b) : PEf X (.Subscript a b pos) (eOp g fa fb) :=
 PEi (pe_ix ho ha hb hs) fun _ _ _ h => Zsq h
noncomputable def eUn (g : D -> HD -> Option (D × HD)) (fa : EF) : EF := fun σ H => (fa σ H).bind fun p => g p.1 p.2
theorem Zhi {op : UnaryOp} {g : D -> HD -> Option (D × HD)} {fa : EF} (ho : UnF X (unaryOp op) g) (ha : PEf X a fa) : PEf X (.UnaryOp op a pos) (eUn g fa) := by
 refine PEi (pe_un ho ha) fun σ H Q zz => ?_
 obtain ⟨ι, σd, Hd, d, Hd', s, hr, e, q⟩ := zz
 obtain ⟨⟨x, H1⟩, e1, e⟩ := Zo e
 exact ⟨ι, σd, Hd, x, H1, s, hr, e1, fun v1 H1' ι1 l1 h1 r1 => ⟨ι1, x, H1, d, Hd', h1, r1, e, fun v H' ι' l h r => q v H' ι' (l1.trans l) h r⟩⟩
noncomputable def blD : D -> Option Bool
 | .bl b => some b
 | _ => none
noncomputable def tOf (f : EF) : TF := fun σ H => (f σ H).bind fun p => (blD p.1).map fun b => (b, p.2)
theorem Zjj {K : PySem.W.Frag} {H : Hp} {ι : List Addr} {d : D} {b : Bool} {v : V} (e : blD d = some b) (r : Rep K H ι d v) : v = .bl b := by
 cases d <;> simp [blD] at e
 subst e
 simpa using r
theorem Zan {op : CmpOp} {g : F2} {fa fb : EF} (ho : OpF X (compareOp op) g) (ha : PEf X a fa) (hb : PEf X b fb) (hm : behindInMarks op b = false) : PTf X (.Compare a [op] [b] pos) (tOf (eOp g fa fb)) := by
 refine PTi (Zxv ho ha hb hm) fun σ H Q zz => ?_
 obtain ⟨ι, σd, Hd, bb, Hd', s, hr, e, q⟩ := zz
 obtain ⟨⟨x, H1⟩, e1, e⟩ := Zo e
 obtain ⟨b', eb, e⟩ := Zm e
 cases e
 exact Zsq ⟨ι, σd, Hd, x, H1, s, hr, e1, fun v H' ι' l h r => ⟨bb, Zjj eb r, q H' ι' l h⟩⟩
noncomputable def Zr4 : D -> HD -> Option Bool
 | .non, _ => some false
 | .bl b, _ => some b
 | .int i, _ => some (i != 0)
 | .tup xs, _ => some (!xs.isEmpty)
 | .fl xs, _ => some (!xs.isEmpty)
 | .str x, _ => if x.length ≤ sizeLine then some ((x.length : Int) != 0) else none
 | .ref n, H => match H[n]? with
  | some (.lst xs) => some (!xs.isEmpty)
  | _ => none
 | _, _ => none
theorem Zhb {α β : Type} {F : α -> β -> Prop} {xs : List α} {us : List β} (r : Paired F xs us) : (!us.isEmpty) = !xs.isEmpty := by cases r <;> rfl
theorem Zv7 {K : PySem.W.Frag} {H : Hp} {ι : List Addr} {Hd : HD} {d : D} {k : Bool} {v : V} (hr : HRep K H ι Hd) (r : Rep K H ι d v) (e : Zr4 d Hd = some k) : TruV K v H k := by
 cases d with
 | non => simp at r; subst r; simp [Zr4] at e; subst e; exact rfl
 | bl b => simp at r; subst r; simp [Zr4] at e; subst e; exact rfl
 | int i => simp at r; subst r; simp [Zr4] at e; subst e; exact rfl
 | ty n => simp [Zr4] at e
 | str x =>
  simp at r; subst r
  simp only [Zr4] at e
  split at e
  ·rename_i hl
   cases e
   exact ⟨hl, rfl⟩
  ·cases e
 | tup xs =>
  obtain ⟨ad, vs, rfl, h, p⟩ := Zbj.mp r
  cases (show some (!xs.isEmpty) = some k from e)
  exact .inr (.inl ⟨vs, h, by rw [Zhb p]⟩)
 | fl xs =>
  obtain ⟨ad, vs, rfl, h, p⟩ := Zfo.mp r
  cases (show some (!xs.isEmpty) = some k from e)
  exact .inl ⟨vs, h.sq, by rw [Zhb p]⟩
 | ref n =>
  obtain ⟨ad, rfl, h⟩ := Zau.mp r
  simp only [Zr4] at e
  split at e
  ·rename_i xs ho
   cases e
   obtain ⟨vs, h1, p⟩ := hr.obj n ad _ h ho
   exact .inl ⟨vs, SqL.of h1, by rw [Zhb p]⟩
  ·cases e
noncomputable def Zgq (f : EF) : TF := fun σ H => (f σ H).bind fun p => (Zr4 p.1 p.2).map fun b => (b, p.2)
theorem Zk7 {fa : EF} (ha : PEf X a fa) (he : ∀ whole, isTrue a X.env whole = (do let v ← whole; standAt a.pos; holding [v] (truthy v))) : PTf X a (Zgq fa) := by
 refine PTi (Zst ha he) fun σ H Q zz => ?_
 obtain ⟨ι, σd, Hd, bb, Hd', s, hr, e, q⟩ := zz
 obtain ⟨⟨x, H1⟩, e1, e⟩ := Zo e
 obtain ⟨b', eb, e⟩ := Zm e
 cases e
 exact ⟨ι, σd, Hd, x, H1, s, hr, e1, fun v H' ι' l h r => ⟨bb, Zv7 h r eb, q H' ι' l h⟩⟩
noncomputable def tNo (t : TF) : TF := fun σ H => (t σ H).map fun p => (!p.1, p.2)
noncomputable def tAn (t u : TF) : TF := fun σ H => (t σ H).bind fun p => if p.1 = true then u σ p.2 else some (false, p.2)
noncomputable def Zga (t u : TF) : TF := fun σ H => (t σ H).bind fun p => if p.1 = true then some (true, p.2) else u σ p.2
theorem Zxn {t : TF} (h : PTf X a t) : PTf X (.UnaryOp .Not a pos) (tNo t) := by
 refine PTi (Zy0 h) fun σ H Q zz => ?_
 obtain ⟨ι, σd, Hd, bb, Hd', s, hr, e, q⟩ := zz
 obtain ⟨⟨x, H1⟩, e1, e⟩ := Zm e
 cases e
 exact ⟨ι, σd, Hd, x, H1, s, hr, e1, fun H' ι' l h => q H' ι' l h⟩
theorem Zto {t : TF} (h : PTf X a t) : PWf X (.BoolOp .And [a] pos) t := Zw7 h
theorem Zwy {t : TF} (h : PTf X a t) : PWf X (.BoolOp .Or [a] pos) t := Yak h
theorem Zv4 {t u : TF} (h : PTf X a t) (h2 : PWf X (.BoolOp .And (b :: es) pos) u) : PWf X (.BoolOp .And (a :: b :: es) pos) (tAn t u) := by
 refine PWi (Yap h h2) fun σ H Q zz => ?_
 obtain ⟨ι, σd, Hd, bb, Hd', s, hr, e, q⟩ := zz
 obtain ⟨⟨x, H1⟩, e1, e⟩ := Zo e
 refine ⟨ι, σd, Hd, x, H1, s, hr, e1, fun H' ι' l h => ?_⟩
 cases x with
 | true =>
  rw [if_pos rfl]
  exact ⟨ι', σd, H1, bb, Hd', s.mono l, h, by simpa using e, fun H2 ι2 l2 h2 => q H2 ι2 (l.trans l2) h2⟩
 | false =>
  rw [if_neg (by simp)]
  simp at e
  obtain ⟨rfl, rfl⟩ := e
  exact q H' ι' l h
theorem Yar {t u : TF} (h : PTf X a t) (h2 : PWf X (.BoolOp .Or (b :: es) pos) u) : PWf X (.BoolOp .Or (a :: b :: es) pos) (Zga t u) := by
 refine PWi (pw_or h h2) fun σ H Q zz => ?_
 obtain ⟨ι, σd, Hd, bb, Hd', s, hr, e, q⟩ := zz
 obtain ⟨⟨x, H1⟩, e1, e⟩ := Zo e
 refine ⟨ι, σd, Hd, x, H1, s, hr, e1, fun H' ι' l h => ?_⟩
 cases x with
 | true =>
  rw [if_pos rfl]
  simp at e
  obtain ⟨rfl, rfl⟩ := e
  exact q H' ι' l h
 | false =>
  rw [if_neg (by simp)]
  exact ⟨ι', σd, H1, bb, Hd', s.mono l, h, by simpa using e, fun H2 ι2 l2 h2 => q H2 ι2 (l.trans l2) h2⟩
theorem PWf.pt {t : TF} (h : PWf X a t) : PTf X a t := h _
noncomputable def eNo (f : EF) : EF := fun σ H => (f σ H).bind fun p => (blD p.1).map fun b => (.bl (!b), p.2)
noncomputable def eAn (f g : EF) : EF := fun σ H => (f σ H).bind fun p => (blD p.1).bind fun b => if b = true then g σ p.2 else some (.bl false, p.2)
theorem Zqx {f : EF} (h : PEf X a f) : PEf X (.UnaryOp .Not a pos) (eNo f) := by
 refine PEi (Ybe h) fun σ H Q zz => ?_
 obtain ⟨ι, σd, Hd, d, Hd', s, hr, e, q⟩ := zz
 obtain ⟨⟨x, H1⟩, e1, e⟩ := Zo e
 obtain ⟨b', eb, e⟩ := Zm e
 cases e
 exact ⟨ι, σd, Hd, x, H1, s, hr, e1, fun v H' ι' l h r => ⟨b', Zjj eb r, q _ H' ι' l h (by simp)⟩⟩
theorem Zvv {op} {f : EF} (h : PEf X a f) : PEf X (.BoolOp op [a] pos) f := Ya4 h
theorem Zvz {f g : EF} (h : PEf X a f) (h2 : PEf X (.BoolOp .And (b :: es) pos) g) : PEf X (.BoolOp .And (a :: b :: es) pos) (eAn f g) := by
 refine PEi (Ybd h h2) fun σ H Q zz => ?_
 obtain ⟨ι, σd, Hd, d, Hd', s, hr, e, q⟩ := zz
 obtain ⟨⟨x, H1⟩, e1, e⟩ := Zo e
 obtain ⟨b', eb, e⟩ := Zo e
 refine ⟨ι, σd, Hd, x, H1, s, hr, e1, fun v H' ι' l h r => ⟨b', Zjj eb r, ?_⟩⟩
 cases b' with
 | true =>
  rw [if_pos rfl]
  exact ⟨ι', σd, H1, d, Hd', s.mono l, h, by simpa using e, fun v2 H2 ι2 l2 h2 r2 => q v2 H2 ι2 (l.trans l2) h2 r2⟩
 | false =>
  rw [if_neg (by simp)]
  simp at e
  obtain ⟨rfl, rfl⟩ := e
  exact q _ H' ι' l h (by simp)
noncomputable def Zae : AF := fun _ H => some ([], H)
noncomputable def Zaa (f : EF) (g : AF) : AF := fun σ H => (f σ H).bind fun p => (g σ p.2).map fun q => (p.1 :: q.1, q.2)
theorem Zh1 : PAf X [] Zae := by
 refine PAi Zh6 fun σ H Q zz => ?_
 obtain ⟨ι, σd, Hd, d, Hd', s, hr, e, q⟩ := zz
 cases e
 exact q [] H ι Le.refl hr .nil
theorem Znf {f : EF} {g : AF} (ha : PEf X e f) (hr : PAf X es g) (hs : starEach (e :: es) X.env = (false, eval e X.env) :: starEach es X.env := by exact Zao rfl) : PAf X (e :: es) (Zaa f g) := by
 refine PAi (Zb4 ha hr hs) fun σ H Q zz => ?_
 obtain ⟨ι, σd, Hd, d, Hd', s, hr, e, q⟩ := zz
 obtain ⟨⟨x, H1⟩, e1, e⟩ := Zo e
 obtain ⟨⟨y, H2⟩, e2, e⟩ := Zm e
 cases e
 exact ⟨ι, σd, Hd, x, H1, s, hr, e1, fun v1 H1' ι1 l1 h1 r1 => ⟨ι1, σd, H1, y, H2, s.mono l1, h1, e2, fun vs H2' ι2 l2 h2 r2 => q _ H2' ι2 (l1.trans l2) h2 (.cons (r1.mono l2) r2)⟩⟩
noncomputable def mkT (xs : List D) (H : HD) : Option (D × HD) := if xs.length ≤ sizeLine then some (.tup xs, H) else none
noncomputable def mkL (xs : List D) (H : HD) : Option (D × HD) := if xs.length ≤ sizeLine then some (.ref H.length, H ++ [.lst xs]) else none
theorem Zg1 {xs : List D} {H : HD} {r : D × HD} (h : mkT xs H = some r) : xs.length ≤ sizeLine ∧ r = (.tup xs, H) := by
 unfold mkT at h
 split at h
 ·rename_i hl; cases h; exact ⟨hl, rfl⟩
 ·cases h
theorem Znl {xs : List D} {H : HD} {r : D × HD} (h : mkL xs H = some r) : xs.length ≤ sizeLine ∧ r = (.ref H.length, H ++ [.lst xs]) := by
 unfold mkL at h
 split at h
 ·rename_i hl; cases h; exact ⟨hl, rfl⟩
 ·cases h
theorem Zhz {K : PySem.W.Frag} {H : Hp} {ι : List Addr} {Hd Hd' : HD} {xs : List D} {vs : List V} {d : D} {Q : VK} (hr : HRep K H ι Hd) (r : Paired (Rep K H ι) xs vs) (e : mkT xs Hd = some (d, Hd')) (q : QE K H ι d Hd' Q) :
  vs.length ≤ sizeLine ∧ ∀ p, H p = none -> Q (.ref p) (upd H p (.tup vs)) := by
 obtain ⟨hl, e⟩ := Zg1 e
 cases e
 refine ⟨by rw [← Prd.len r]; exact hl, fun p hp => ?_⟩
 exact q _ _ ι (Le.fresh hp _) (hr.tup hp _) (Zbj.mpr ⟨p, vs, rfl, SqT.of upd_same, Prd.mono (Le.fresh hp _) r⟩)
theorem Zee {K : PySem.W.Frag} {H : Hp} {ι : List Addr} {Hd Hd' : HD} {xs : List D} {vs : List V} {d : D} {Q : VK} (hr : HRep K H ι Hd) (r : Paired (Rep K H ι) xs vs) (e : mkL xs Hd = some (d, Hd')) (q : QE K H ι d Hd' Q) :
  vs.length ≤ sizeLine ∧ ∀ p, H p = none -> Q (.ref p) (upd H p (.lst vs)) := by
 obtain ⟨hl, e⟩ := Znl e
 cases e
 refine ⟨by rw [← Prd.len r]; exact hl, fun p hp => ?_⟩
 refine q _ _ (ι ++ [p]) (Le.fresh1 hp _) (hr.new hp ⟨vs, upd_same, Prd.mono (Le.fresh1 hp _) r⟩) (Zau.mpr ⟨p, rfl, ?_⟩)
 rw [← hr.len]; simp
noncomputable def Zcz (f : AF) : EF := fun σ H => (f σ H).bind fun p => mkT p.1 p.2
noncomputable def Zch (f : AF) : EF := fun σ H => (f σ H).bind fun p => mkL p.1 p.2
theorem Zph {f : AF} {x1} (h : PAf X es f) : PEf X (.Tuple es x1 pos) (Zcz f) := by
 refine PEi (Zu6 h) fun σ H Q zz => ?_
 obtain ⟨ι, σd, Hd, d, Hd', s, hr, e, q⟩ := zz
 obtain ⟨⟨x, H1⟩, e1, e⟩ := Zo e
 exact ⟨ι, σd, Hd, x, H1, s, hr, e1, fun vs H' ι' l h r => Zhz h r e fun v2 H2 ι2 l2 h2 r2 => q v2 H2 ι2 (l.trans l2) h2 r2⟩
theorem Zo9 {f : AF} (h : PAf X es f) : PEf X (.List es pos) (Zch f) := by
 refine PEi (Zt6 h) fun σ H Q zz => ?_
 obtain ⟨ι, σd, Hd, d, Hd', s, hr, e, q⟩ := zz
 obtain ⟨⟨x, H1⟩, e1, e⟩ := Zo e
 exact ⟨ι, σd, Hd, x, H1, s, hr, e1, fun vs H' ι' l h r => Zee h r e fun v2 H2 ι2 l2 h2 r2 => q v2 H2 ι2 (l.trans l2) h2 r2⟩
noncomputable def eCB (g : FF) (f : AF) : EF := fun σ H => (f σ H).bind fun p => g p.1 p.2
theorem Zz2 {f : AF} {g : FF} {σ : L2.St} {H : Hp} {Q : VK} {K : PySem.W.Frag} (h : rdE K (eCB g f) σ H Q) : tCB (rdC K g) (rdA K f) σ H Q := by
 obtain ⟨ι, σd, Hd, d, Hd', s, hr, e, q⟩ := h
 obtain ⟨⟨x, H1⟩, e1, e⟩ := Zo e
 exact ⟨ι, σd, Hd, x, H1, s, hr, e1, fun vs H' ι' l h r => ⟨ι', x, H1, d, Hd', h, r, e, fun v2 H2 ι2 l2 h2 r2 => q v2 H2 ι2 (l.trans l2) h2 r2⟩⟩
theorem Zdr {x : Str} {id : String} {g : FF} {f : AF} {p : Pos} (hc : Zig X (.builtin id) g) (hg : Gl X x) (hm : X.mg x = none) (hv : bootBuiltins x = some (.builtin id)) (ha : PAf X (e :: es) f) (hn : x ≠ "__name__" := by decide) (hdb : (x == ("__debug__" : Str)) = false := by decide)
  (he : starEach (e :: es) X.env = (false, eval e X.env) :: starEach es X.env := by exact Zao rfl) (hpl : (backTo pos (starEach es X.env)).any (·.1) = false := by exact Zbs rfl) : PEf X (.Call (.Name x p) (e :: es) [] pos) (eCB g f) :=
 PEi (Zfu hc hg hm hv ha hn hdb he hpl) fun _ _ _ h => Zz2 h
theorem Zgf {x : Str} {T : String} {g : FF} {f : AF} {p : Pos} (hc : Zig X (.type T) g) (hg : Gl X x) (hm : X.mg x = none) (hv : bootBuiltins x = some (.type T)) (ha : PAf X (e :: es) f) (hn : x ≠ "__name__" := by decide) (hdb : (x == ("__debug__" : Str)) = false := by decide)
  (he : starEach (e :: es) X.env = (false, eval e X.env) :: starEach es X.env := by exact Zao rfl) (hpl : (backTo pos (starEach es X.env)).any (·.1) = false := by exact Zbs rfl) : PEf X (.Call (.Name x p) (e :: es) [] pos) (eCB g f) :=
 PEi (Zq6 hc hg hm hv ha hn hdb he hpl) fun _ _ _ h => Zz2 h
noncomputable def spF (K : PySem.W.Frag) (n : Nat) (F : FF) : Sp := fun vs H Q _ => ∃ ι ds Hd d Hd', ds.length = n ∧ HRep K H ι Hd ∧ Paired (Rep K H ι) ds vs ∧ F ds Hd = some (d, Hd') ∧ QE K H ι d Hd' Q
noncomputable def Zal (n : Nat) (F : FF) (f : AF) : EF := fun σ H => (f σ H).bind fun p => if p.1.length = n then F p.1 p.2 else none
theorem Ztz {k n : Nat} {f : Addr} {fd : FuncData} {ps : List Str} {x : Str} {p : Pos} {F : FF} {fa : AF} (G : FnOk X.prog X.w X.K X.mg X.base CX0 k f fd ps (spF X.K n F)) (hr : Room k X.A) (hg : Gl X x) (hm : X.mg x = some (.ref f)) (hk : PySem.W.keepIn X.K (.ref f) = true)
  (hb : Ze2 X.K fd ps []) (ha : PAf X (e :: es) fa) (hdb : (x == ("__debug__" : Str)) = false := by decide) (he : starEach (e :: es) X.env = (false, eval e X.env) :: starEach es X.env := by exact Zao rfl) (hpl : (backTo pos (starEach es X.env)).any (·.1) = false := by exact Zbs rfl) :
  PEf X (.Call (.Name x p) (e :: es) [] pos) (Zal n F fa) := by
 refine PEi (Zxg (E := E0) G hr hg hm hk hb .nil Zye ha hdb he hpl) fun σ H Q zz => ?_
 obtain ⟨ι, σd, Hd, d, Hd', s, hr, e, q⟩ := zz
 obtain ⟨⟨x, H1⟩, e1, e⟩ := Zo e
 refine ⟨ι, σd, Hd, x, H1, s, hr, e1, fun vs H' ι' l h r => ?_⟩
 dsimp only at e
 split at e
 ·rename_i hl
  exact ⟨ι', x, H1, d, Hd', hl, h, by simpa using r, e, fun v2 H2 ι2 l2 h2 r2 => q v2 H2 ι2 (l.trans l2) h2 r2⟩
 ·cases e
noncomputable def Zml : D -> HD -> Bool
 | .ref n, H => match H[n]? with
  | some (.lst _) => true
  | _ => false
 | _, _ => false
theorem Zsl {K : PySem.W.Frag} {H : Hp} {ι : List Addr} {Hd : HD} {d : D} {v : V} (hr : HRep K H ι Hd) (r : Rep K H ι d v) (e : Zml d Hd = true) : tyV K "list" v H := by
 cases d with
 | ref n =>
  obtain ⟨ad, rfl, h⟩ := Zau.mp r
  simp only [Zml] at e
  split at e
  ·rename_i xs ho
   obtain ⟨vs, h1, p⟩ := hr.obj n ad _ h ho
   exact .inl ⟨rfl, vs, SqL.of h1⟩
  ·cases e
 | _ => simp [Zml] at e
noncomputable def eLM (g : D -> List D -> HD -> Option (D × HD)) (fo : EF) (f : AF) : EF := fun σ H => (fo σ H).bind fun o => if Zml o.1 o.2 = true then (f σ o.2).bind fun p => g o.1 p.1 p.2 else none
theorem Zmr {o : Expr} {name : Str} {apos cpos : Pos} {id : String} {g : D → List D → HD → Option (D × HD)} {fo : EF} {f : AF} (slot : Slot "list" name id) (hty : typeOf (.builtin id) = pure (.type "method_descriptor")) (hm : MtF X id g) (ho : PEf X o fo) (ha : PAf X (e :: es) f)
  (hbase : attributeBase o name X.env (eval o X.env) = eval o X.env := by rfl)
  (hfew : ((backTo cpos (starEach (e :: es) X.env)).all (fun x => !x.1) && (backToKw cpos (keywordEach [] X.env)).all (fun x => x.1.isSome)
   && decide ((e :: es).length + ([] : List Keyword).length + (if ([] : List Keyword).isEmpty then 0 else 1) < 30)) = true := by exact Zs6 rfl (by decide))
  (hline : (apos.endLine == cpos.line) = true := by rfl) (hs : starEach (e :: es) X.env = (false, eval e X.env) :: starEach es X.env := by exact Zao rfl) (hplain : (backTo cpos (starEach es X.env)).any (·.1) = false := by exact Zbs rfl) :
  PEf X (.Call (.Attribute o name apos) (e :: es) [] cpos) (eLM g fo f) := by
 refine PEi (pe_bm PySem.F.plainAttrs_list slot hty hm ho ha hbase hfew hline hs hplain) fun σ H Q zz => ?_
 obtain ⟨ι, σd, Hd, d, Hd', s, hr, e, q⟩ := zz
 obtain ⟨⟨x, H1⟩, e1, e⟩ := Zo e
 dsimp only at e
 split at e
 ·rename_i hl
  obtain ⟨⟨y, H2⟩, e2, e⟩ := Zo e
  exact ⟨ι, σd, Hd, x, H1, s, hr, e1, fun v1 H1' ι1 l1 h1 r1 => ⟨Zsl h1 r1 hl, ι1, σd, H1, y, H2, s.mono l1, h1, e2, fun vs H2' ι2 l2 h2 r2 =>
   ⟨ι2, x, y, H2, d, Hd', h2, r1.mono l2, r2, e, fun v H' ι' l h r => q v H' ι' ((l1.trans l2).trans l) h r⟩⟩⟩
 ·cases e
noncomputable def Zak : SF := fun σ H => some (.nx, σ, H)
noncomputable def Zaf (f g : SF) : SF := fun σ H => (f σ H).bind fun r => match r.1 with
 | .nx => g r.2.1 r.2.2
 | _ => some r
theorem Zg2 : Zlr X [] Zak := by
 refine Zx5 Zrb fun E σ H zz => ?_
 obtain ⟨ι, σd, Hd, fl, σd', Hd', s, hr, e, q⟩ := zz
 cases e
 exact q σ H ι Le.refl hr s
theorem Zfq {f g : SF} (h1 : PSf X st f) (h2 : Zlr X sts g) : Zlr X (st :: sts) (Zaf f g) := by
 refine Zx5 (Zfg h1 h2) fun E σ H zz => ?_
 obtain ⟨ι, σd, Hd, fl, σd', Hd', s, hr, e, q⟩ := zz
 obtain ⟨⟨f1, σ1, H1⟩, e1, e⟩ := Zo e
 refine ⟨ι, σd, Hd, f1, σ1, H1, s, hr, e1, fun σ' H' ι' l h ss => ?_⟩
 cases f1 with
 | nx => exact ⟨ι', σ1, H1, fl, σd', Hd', ss, h, e, fun σ2 H2 ι2 l2 h2 s2 => q σ2 H2 ι2 (l.trans l2) h2 s2⟩
 | bk => cases e; exact q σ' H' ι' l h ss
 | ct => cases e; exact q σ' H' ι' l h ss
 | rt d => cases e; exact q σ' H' ι' l h ss
noncomputable def Zaz (f : EF) : SF := fun σ H => (f σ H).map fun p => (.rt p.1, σ, p.2)
theorem Zfa {f : EF} (he : PEf X e f) : PSf X (.Return (some e) pos) (Zaz f) := by
 refine PSi (Zuz he) fun E σ H zz => ?_
 obtain ⟨ι, σd, Hd, fl, σd', Hd', s, hr, e, q⟩ := zz
 obtain ⟨⟨x, H1⟩, e1, e⟩ := Zm e
 cases e
 exact ⟨ι, σd, Hd, x, H1, s, hr, e1, fun v H' ι' l h r => q σ H' ι' l h (s.mono l) v r⟩
noncomputable def Zds (f : EF) : SF := fun σ H => (f σ H).map fun p => (.nx, σ, p.2)
theorem Zt1 {f : EF} (he : PEf X e f) (hs : swapsWith e none pos.line X.env = pure false := by rfl) : PSf X (.Expr e pos) (Zds f) := by
 refine PSi (Zrt he hs) fun E σ H zz => ?_
 obtain ⟨ι, σd, Hd, fl, σd', Hd', s, hr, e, q⟩ := zz
 obtain ⟨⟨x, H1⟩, e1, e⟩ := Zm e
 cases e
 exact ⟨ι, σd, Hd, x, H1, s, hr, e1, fun v H' ι' l h r => q σ H' ι' l h (s.mono l)⟩
noncomputable def sIf (t : TF) (f g : SF) : SF := fun σ H => (t σ H).bind fun p => if p.1 = true then f σ p.2 else g σ p.2
theorem Zuw {t : TF} {f g : SF} {as bs : List Stmt} (hc : PTf X c t) (ha : Zlr X as f) (hb : Zlr X bs g) : PSf X (.If c as bs pos) (sIf t f g) := by
 refine PSi (Zzo hc ha hb) fun E σ H zz => ?_
 obtain ⟨ι, σd, Hd, fl, σd', Hd', s, hr, e, q⟩ := zz
 obtain ⟨⟨x, H1⟩, e1, e⟩ := Zo e
 refine ⟨ι, σd, Hd, x, H1, s, hr, e1, fun H' ι' l h => ?_⟩
 cases x with
 | true =>
  rw [if_pos rfl]
  exact ⟨ι', σd, H1, fl, σd', Hd', s.mono l, h, by simpa using e, fun σ2 H2 ι2 l2 h2 s2 => q σ2 H2 ι2 (l.trans l2) h2 s2⟩
 | false =>
  rw [if_neg (by simp)]
  exact ⟨ι', σd, H1, fl, σd', Hd', s.mono l, h, by simpa using e, fun σ2 H2 ι2 l2 h2 s2 => q σ2 H2 ι2 (l.trans l2) h2 s2⟩
noncomputable def Zav (i : Nat) (f : EF) : SF := fun σ H => (f σ H).map fun p => (.nx, σ.set i (some p.1), p.2)
theorem Zbm {i : Nat} {x : Str} {f : EF} {pos' : Pos} (hN : X.N.Nodup) (hi : X.N[i]? = some x) (hx : Loc X.env.scope x) (he : PEf X e f) (hs : swapsWith e (some (.Name x pos')) pos.line X.env = pure false := by rfl) (hf : X.fn x = true ∨ X.env.scope.names.lookup x = some .local := by first | exact .inl rfl | exact .inr rfl | assumption) :
  PSf X (.Assign [.Name x pos'] e pos) (Zav i f) := by
 refine PSi (Zuc hN hi hx he hs hf) fun E σ H zz => ?_
 obtain ⟨ι, σd, Hd, fl, σd', Hd', s, hr, e, q⟩ := zz
 obtain ⟨⟨x, H1⟩, e1, e⟩ := Zm e
 cases e
 exact ⟨ι, σd, Hd, x, H1, s, hr, e1, fun v H' ι' l h r => q _ H' ι' l h ((s.mono l).set r i)⟩
noncomputable def gNm (i : Nat) : GF := fun d σ H => some (σ.set i (some d), H)
theorem Zc7 {i : Nat} {x : Str} (hN : X.N.Nodup) (hi : X.N[i]? = some x) (hx : Loc X.env.scope x) (hf : X.fn x = true ∨ X.env.scope.names.lookup x = some .local := by first | exact .inl rfl | exact .inr rfl | assumption) : PGf X (.Name x pos) (gNm i) := by
 refine PGi (Zo3 hN hi hx hf) fun v σ H Q zz => ?_
 obtain ⟨ι, σd, Hd, d, σd', Hd', s, hr, r, e, q⟩ := zz
 cases e
 exact q _ H ι Le.refl hr (s.set r i)
noncomputable abbrev Zx3 := D -> D -> D -> HD -> Option HD
noncomputable def rdSet (K : PySem.W.Frag) (g : Zx3) : TSet := fun o i v H Q => ∃ ι od id vd Hd Hd', HRep K H ι Hd ∧ Rep K H ι od o ∧ Rep K H ι id i ∧ Rep K H ι vd v ∧ g od id vd Hd = some Hd' ∧ ∀ H' ι', Le K H ι H' ι' -> HRep K H' ι' Hd' -> Q H'
noncomputable def Ya1 (X : Cx) (g : Zx3) : Prop := PSet X (rdSet X.K g)
noncomputable def gSb (fo fi : EF) (g : Zx3) : GF := fun d σ H => (fo σ H).bind fun o => (fi σ o.2).bind fun i => (g o.1 i.1 d i.2).map fun H' => (σ, H')
theorem Zv3 {o i : Expr} {fo fi : EF} {g : Zx3} (ho : PEf X o fo) (hi : PEf X i fi) (hs : Ya1 X g)
  (ha : ∀ v, assign (.Subscript o i pos) X.env v = (do
   let ov ← holding [v] (eval o X.env)
   let iv ← holding [v, ov] (eval i X.env)
   standAt pos
   holding [v, ov, iv] (setItem ov iv v)
   release [v, ov, iv] []) := by intro _; rfl) : PGf X (.Subscript o i pos) (gSb fo fi g) := by
 refine PGi (Yah ho hi hs ha) fun v σ H Q zz => ?_
 obtain ⟨ι, σd, Hd, d, σd', Hd', s, hr, r, e, q⟩ := zz
 obtain ⟨⟨x, H1⟩, e1, e⟩ := Zo e
 obtain ⟨⟨y, H2⟩, e2, e⟩ := Zo e
 obtain ⟨H3, e3, e⟩ := Zm e
 obtain ⟨rfl, rfl⟩ := Prod.mk.inj e
 exact ⟨ι, σd, Hd, x, H1, s, hr, e1, fun v1 H1' ι1 l1 h1 r1 => ⟨ι1, σd, H1, y, H2, s.mono l1, h1, e2, fun v2 H2' ι2 l2 h2 r2 =>
  ⟨ι2, x, y, d, H2, H3, h2, r1.mono l2, r2, r.mono (l1.trans l2), e3, fun H' ι' l h => q σ H' ι' ((l1.trans l2).trans l) h (s.mono ((l1.trans l2).trans l))⟩⟩⟩
noncomputable abbrev GFs := List D -> SD -> HD -> Option (SD × HD)
noncomputable def rdGs (K : PySem.W.Frag) (g : GFs) : TGs := fun vs σ H Q => ∃ ι σd Hd ds σd' Hd', SRep K H ι σ σd ∧ HRep K H ι Hd ∧ Paired (Rep K H ι) ds vs ∧ g ds σd Hd = some (σd', Hd') ∧
 ∀ σ' H' ι', Le K H ι H' ι' -> HRep K H' ι' Hd' -> SRep K H' ι' σ' σd' -> Q σ' H'
noncomputable def PGsf (X : Cx) (ts : List Expr) (g : GFs) : Prop := PGs X ts (rdGs X.K g)
noncomputable def gNl : GFs := fun ds σ H => match ds with
 | [] => some (σ, H)
 | _ => none
noncomputable def gCn (g : GF) (h : GFs) : GFs := fun ds σ H => match ds with
 | d :: r => (g d σ H).bind fun p => h r p.1 p.2
 | [] => none
theorem PGsi {ts : List Expr} {t t' : TGs} (h : PGs X ts t) (i : ∀ v σ H Q, t' v σ H Q -> t v σ H Q) : PGs X ts t' := fun pins s σ H v u Q I r q => h pins s σ H v u Q I r (i v σ H Q q)
theorem Zsn : PGsf X [] gNl := by
 refine PGsi Zvp fun vs σ H Q zz => ?_
 obtain ⟨ι, σd, Hd, ds, σd', Hd', s, hr, r, e, q⟩ := zz
 cases r with
 | nil => cases e; exact ⟨rfl, q σ H ι Le.refl hr s⟩
 | cons _ _ => cases e
theorem Zlj {g : GF} {h : GFs} (h1 : PGf X e g) (h2 : PGsf X es h) (hs : (assignEach (e :: es) X.env).map (·.2) = assign e X.env :: (assignEach es X.env).map (·.2) := by rfl) : PGsf X (e :: es) (gCn g h) := by
 refine PGsi (Zr8 h1 h2 hs) fun vs σ H Q zz => ?_
 obtain ⟨ι, σd, Hd, ds, σd', Hd', s, hr, r, e, q⟩ := zz
 cases r with
 | nil => cases e
 | cons r rr =>
  obtain ⟨⟨σ1, H1⟩, e1, e⟩ := Zo e
  exact ⟨_, _, rfl, ι, σd, Hd, _, σ1, H1, s, hr, r, e1, fun σ' H' ι' l h ss => ⟨ι', σ1, H1, _, σd', Hd', ss, h, Prd.mono l rr, e, fun σ2 H2 ι2 l2 h2 s2 => q σ2 H2 ι2 (l.trans l2) h2 s2⟩⟩
noncomputable def gTp (n : Nat) (g : GFs) : GF := fun d σ H => match d with
 | .tup ds => if ds.length = n then g ds σ H else none
 | _ => none
theorem Zwk {k n : Nat} {g : GFs} (hc : X.calm = true) (h : PGsf X es g) (hn : (assignEach es X.env).length = n := by rfl) (hst : (assignEach es X.env).findIdx? (·.1) = none := by rfl) : PGf X (.Tuple es k pos) (gTp n g) := by
 refine PGi (Zyb hc h hn hst) fun v σ H Q zz => ?_
 obtain ⟨ι, σd, Hd, d, σd', Hd', s, hr, r, e, q⟩ := zz
 cases d with
 | tup ds =>
  obtain ⟨a, vs, rfl, h1, p⟩ := Zbj.mp r
  simp only [gTp] at e
  split at e
  ·rename_i hl
   exact ⟨a, vs, rfl, h1, by rw [← Prd.len p]; exact hl, ι, σd, Hd, ds, σd', Hd', s, hr, p, e, q⟩
  ·cases e
 | _ => simp [gTp] at e
noncomputable def Zzd (f : EF) (g : GF) : SF := fun σ H => (f σ H).bind fun p => (g p.1 σ p.2).map fun q => (.nx, q.1, q.2)
theorem Zqe {tg : Expr} {f : EF} {g : GF} (he : PEf X e f) (hg : PGf X tg g) (hs : swapsWithSole [tg] e pos.line X.env = pure false := by rfl) (hw : swappedStores [tg] e X.env = pure none := by rfl)
  (h1 : (assignEach [tg] X.env).map (·.2) = [assign tg X.env] := by rfl) : PSf X (.Assign [tg] e pos) (Zzd f g) := by
 refine PSi (Zy2 he hg hs hw h1) fun E σ H zz => ?_
 obtain ⟨ι, σd, Hd, fl, σd', Hd', s, hr, e, q⟩ := zz
 obtain ⟨⟨x, H1⟩, e1, e⟩ := Zo e
 obtain ⟨⟨σ2, H2⟩, e2, e⟩ := Zm e
 cases e
 exact ⟨ι, σd, Hd, x, H1, s, hr, e1, fun v H' ι' l h r => ⟨ι', σd, H1, x, σ2, H2, s.mono l, h, r, e2, fun σ3 H3 ι3 l3 h3 s3 => q σ3 H3 ι3 (l.trans l3) h3 s3⟩⟩
noncomputable abbrev Zgr := List (Nat × DO)
noncomputable def Zck (own : Zgr) (H : HD) : Prop := ∀ p ∈ own, H[p.1]? = some p.2
noncomputable abbrev ItF := SD -> HD -> Option ((List D × Zgr) × HD)
structure ItRep (K : PySem.W.Frag) (J : It) (xs : List D) (own : Zgr) (H0 : Hp) (ι0 : List Addr) : Prop where
 go : ∀ i H ι Hd, Le K H0 ι0 H ι -> HRep K H ι Hd -> Zck own Hd -> i < xs.length -> J.go i H
 yld : ∀ i H ι Hd d x H', Le K H0 ι0 H ι -> HRep K H ι Hd -> Zck own Hd -> xs[i]? = some d -> J.yld i H x H' -> ∃ ι', Le K H ι H' ι' ∧ HRep K H' ι' Hd ∧ Rep K H' ι' d x
 stop : ∀ i H ι Hd, Le K H0 ι0 H ι -> HRep K H ι Hd -> Zck own Hd -> xs.length ≤ i -> J.stop i H
noncomputable def rdI (K : PySem.W.Frag) (f : ItF) : TI := fun σ H R => ∃ ι σd Hd xs own Hd', SRep K H ι σ σd ∧ HRep K H ι Hd ∧ f σd Hd = some ((xs, own), Hd') ∧ ∀ J H' ι', Le K H ι H' ι' -> HRep K H' ι' Hd' -> ItRep K J xs own H' ι' -> R J H'
noncomputable def PIf (X : Cx) (tg iter : Expr) (f : ItF) : Prop := PI X tg iter (rdI X.K f)
theorem PIi {tg iter : Expr} {t t' : TI} (h : PI X tg iter t) (i : ∀ σ H R, t' σ H R -> t σ H R) : PI X tg iter t' := fun pins s σ H R I q => h pins s σ H R I (i σ H R q)
open Classical in
noncomputable def Zia (own : Zgr) (g : GF) (body : SF) : List D -> SF
 | [], σ, H => if Zck own H then some (.nx, σ, H) else none
 | x :: r, σ, H => if Zck own H then (g x σ H).bind fun p => (body p.1 p.2).bind fun q => match q.1 with
   | .nx => Zia own g body r q.2.1 q.2.2
   | .ct => Zia own g body r q.2.1 q.2.2
   | .bk => some (.nx, q.2.1, q.2.2)
   | .rt d => some (.rt d, q.2.1, q.2.2)
  else none
noncomputable def Zi3 (it : ItF) (g : GF) (body : SF) : SF := fun σ H => (it σ H).bind fun p => Zia p.1.2 g body p.1.1 σ p.2
theorem Zxx {tg iter : Expr} {body : List Stmt} {f : ItF} {g : GF} {b : SF} (hp : PassesOwn (model X.prog X.w) X.A X.env X.xe) (hc : X.calm = true) (hi : PIf X tg iter f) (hg : PGf X tg g) (hb : Zlr X body b)
  (hs : ∀ x, foldedSetIterable iter X.env x = pure x := by intro _; rfl) : PSf X (.For tg iter body [] pos) (Zi3 f g b) := by
 refine PSi (Zui hp hc hi hg hb hs) fun E σ H zz => ?_
 obtain ⟨ι, σd, Hd, fl, σf, Hf, s, hr, e, q⟩ := zz
 obtain ⟨⟨⟨xs, own⟩, H1⟩, e1, e⟩ := Zo e
 refine ⟨ι, σd, Hd, xs, own, H1, s, hr, e1, fun J H0 ι0 l0 h0 it => ?_⟩
 refine ⟨fun i m σ H => m = xs.length - i ∧ i ≤ xs.length ∧ ∃ ι σd Hd, Le X.K H0 ι0 H ι ∧ SRep X.K H ι σ σd ∧ HRep X.K H ι Hd ∧ Zia own g b (xs.drop i) σd Hd = some (fl, σf, Hf),
  ⟨xs.length, by simp, Nat.zero_le _, ι0, σd, H1, Le.refl, s.mono l0, h0, by simpa using e⟩, ?_⟩
 rintro i m σ2 H2 ⟨rfl, hi, ι2, σd2, Hd2, l2, s2, h2, e2⟩
 by_cases hlt : i < xs.length
 ·have ed : xs.drop i = xs[i] :: xs.drop (i + 1) := List.drop_eq_getElem_cons hlt
  rw [ed, Zia] at e2
  split at e2
  ·rename_i ok
   obtain ⟨⟨σ3, H3⟩, e3, e2⟩ := Zo e2
   obtain ⟨⟨f4, σ4, H4⟩, e4, e2⟩ := Zo e2
   refine .inr ⟨it.go i H2 ι2 Hd2 l2 h2 ok hlt, fun σ' H' => (xs.length - (i + 1) = xs.length - (i + 1) ∧ i + 1 ≤ xs.length ∧ ∃ ι σd Hd, Le X.K H0 ι0 H' ι ∧ SRep X.K H' ι σ' σd ∧ HRep X.K H' ι Hd ∧ Zia own g b (xs.drop (i + 1)) σd Hd = some (fl, σf, Hf)),
    fun σ' H' p => ⟨_, by omega, p⟩, fun x H' y => ?_⟩
   obtain ⟨ι3, l3, h3, r3⟩ := it.yld i H2 ι2 Hd2 xs[i] x H' l2 h2 ok (by simp [hlt]) y
   refine ⟨ι3, σd2, Hd2, xs[i], σ3, H3, s2.mono l3, h3, r3, e3, fun σ5 H5 ι5 l5 h5 s5 => ?_⟩
   refine ⟨ι5, σ3, H3, f4, σ4, H4, s5, h5, e4, fun σ6 H6 ι6 l6 h6 s6 => ?_⟩
   have L : Le X.K H0 ι0 H6 ι6 := ((l2.trans l3).trans l5).trans l6
   cases f4 with
   | nx => exact ⟨rfl, hlt, ι6, σ4, H4, L, s6, h6, e2⟩
   | ct => exact ⟨rfl, hlt, ι6, σ4, H4, L, s6, h6, e2⟩
   | bk => cases e2; exact q σ6 H6 ι6 (l0.trans L) h6 s6
   | rt d => cases e2; exact q σ6 H6 ι6 (l0.trans L) h6 s6
  ·cases e2
 ·have hi' : i = xs.length := by omega
  rw [List.drop_eq_nil_of_le (by omega), Zia] at e2
  split at e2
  ·rename_i ok
   have e3 : (FD.nx, σd2, Hd2) = (fl, σf, Hf) := Option.some.inj e2
   obtain ⟨rfl, e4⟩ := Prod.mk.inj e3
   obtain ⟨rfl, rfl⟩ := Prod.mk.inj e4
   exact .inl ⟨it.stop i H2 ι2 _ l2 h2 ok (by omega), q σ2 H2 ι2 (l0.trans l2) h2 s2⟩
  ·cases e2
end
noncomputable def Za5 (n N : Nat) (b : SF) : FF := fun ds H => if ds.length = n then (b (ds.map some ++ List.replicate (N - ds.length) none) H).bind fun r => match r.1 with
  | .rt d => some (d, r.2.2)
  | .nx => some (.non, r.2.2)
  | _ => none
 else none
section
variable {P : Program} {w : World} {K : PySem.W.Frag} {mg : Str -> Option Value} {base : Heap}
theorem fn_f {x qual : Str} {st : Stmt} {f : Addr} {fd : FuncData} {N ps : List Str} {k : Nat} {b : SF} (F : Fun K x qual st f fd) (S : FnScope N ps (Zad st))
  (hb : ∀ (cdv : Value) (A : Around) (outer : List Env) (s : Shared) (H : Hp) (E : XK), Room k (A.deeper (envOfC qual (Zad st) s.heap.objs.size f cdv)) →
   Zlr (Zfe CX0 P w K mg base N qual (Zad st) f cdv A outer s H E).nox (Zby st) b) : FnOk P w K mg base CX0 (k + 1) f fd ps (spF K ps.length (Za5 ps.length N.length b)) := by
 refine F.ok S (fun vs H Q E h => ?_) (fun cdv A outer s H vs Q E hr h => ?_)
 ·obtain ⟨ι, ds, Hd, d, Hd', hl, _, r, _⟩ := h
  rw [← Prd.len r]; exact hl
 ·obtain ⟨ι, ds, Hd, d, Hd', hl, hh, r, e, q⟩ := h
  refine ⟨_, hb cdv A outer s H E hr, ?_⟩
  unfold Za5 at e
  rw [if_pos hl] at e
  obtain ⟨⟨fl, σ1, H1⟩, e1, e⟩ := Zo e
  refine ⟨ι, _, Hd, fl, σ1, H1, ?_, hh, e1, fun σ' H' ι' l h ss => ?_⟩
  ·refine ⟨by simp [L2.start, Prd.len r], fun i d0 h0 => ?_⟩
   unfold L2.start
   by_cases hi : i < ds.length
   ·rw [List.getElem?_append_left (by simpa using hi), List.getElem?_map] at h0
    cases ed : ds[i]? with
    | none => rw [ed] at h0; cases h0
    | some d1 =>
     rw [ed] at h0
     cases h0
     obtain ⟨v, hv, rv⟩ := Prd.get r ed
     refine ⟨v, ?_, rv⟩
     rw [List.getElem?_append_left (by rw [List.length_map, ← Prd.len r]; exact hi), List.getElem?_map, hv]
     rfl
   ·rw [List.getElem?_append_right (by simpa using hi), List.getElem?_replicate] at h0
    split at h0 <;> cases h0
  ·cases fl with
   | rt d1 => cases e; exact fun v rv => q v H' ι' l h rv
   | nx => cases e; exact q .non H' ι' l h (by simp)
   | bk => cases e
   | ct => cases e
end
noncomputable def Zk8 (env : Env) : List (Str × NameKind) -> List (Str × Addr) -> List (Str × Addr)
 | [], cs => cs
 | (n, k) :: r, cs => Zk8 env r (if k = .free then (match env.cells.lookup n with | some a => (n, a) :: cs | none => cs) else cs)
theorem Zi2 (env : Env) (scope : Scope) (h : ∀ y ∈ scope.names, y.2 = .free -> (env.cells.lookup y.1).isSome = true) : closureFor scope env = pure (Zk8 env scope.names []) := by
 have key : ∀ (ns : List (Str × NameKind)) (cs : List (Str × Addr)), (∀ y ∈ ns, y.2 = .free -> (env.cells.lookup y.1).isSome = true) →
   (forIn ns cs fun (x : Str × NameKind) cs => match x with
    | (name, kind) => if (kind == .free) = true then (do let a ← cellOf env name; pure (ForInStep.yield ((name, a) :: cs))) else pure (ForInStep.yield cs) : Sem (List (Str × Addr))) = pure (Zk8 env ns cs) := by
  intro ns
  induction ns with
  | nil => intro cs _; rfl
  | cons x r ih =>
   intro cs hh
   obtain ⟨n, k⟩ := x
   have hr := ih
   rw [List.forIn_cons]
   by_cases hk : k = .free
   ·subst hk
    have q := hh (n, .free) (by simp) rfl
    cases e : env.cells.lookup n with
    | none => rw [e] at q; cases q
    | some a =>
     have e2 : cellOf env n = pure a := by unfold cellOf; rw [e]
     simp only [beq_self_eq_true, if_true, e2, pure_bind, Zk8, e]
     exact ih _ fun y hy => hh y (List.mem_cons_of_mem _ hy)
   ·have hb : (k == NameKind.free) = false := by simpa using hk
    simp only [hb, Bool.false_eq_true, if_false, pure_bind, Zk8, hk]
    exact ih _ fun y hy => hh y (List.mem_cons_of_mem _ hy)
 have e : closureFor scope env = ((forIn scope.names [] fun (x : Str × NameKind) cs => match x with
    | (name, kind) => if (kind == .free) = true then (do let a ← cellOf env name; pure (ForInStep.yield ((name, a) :: cs))) else pure (ForInStep.yield cs) : Sem (List (Str × Addr))) >>= pure) := rfl
 rw [e, bind_pure]
 exact key scope.names [] h
theorem Zjv (env : Env) : ∀ (ns : List (Str × NameKind)) (cs : List (Str × Addr)), (∀ x c, cs.lookup x = some c -> env.cells.lookup x = some c) -> ∀ x c, (Zk8 env ns cs).lookup x = some c -> env.cells.lookup x = some c
 | [], cs, h => h
 | (n, k) :: r, cs, h => by
  unfold Zk8
  refine Zjv env r _ ?_
  split
  ·cases e : env.cells.lookup n with
   | none => exact h
   | some a =>
    intro x c q
    dsimp only at q
    rw [List.lookup_cons] at q
    split at q
    ·rename_i hb
     have hb' : x = n := by simpa using hb
     subst hb'; cases q; exact e
    ·exact h x c q
  ·exact h
theorem Zng (env : Env) : ∀ (ns : List (Str × NameKind)) (cs : List (Str × Addr)) (x : Str), ((cs.lookup x).isSome = true ∨ ((x, NameKind.free) ∈ ns ∧ (env.cells.lookup x).isSome = true)) -> ((Zk8 env ns cs).lookup x).isSome = true
 | [], cs, x, h => by
  rcases h with h | ⟨h, _⟩
  ·exact h
  ·simp at h
 | (n, k) :: r, cs, x, h => by
  unfold Zk8
  refine Zng env r _ x ?_
  by_cases hk : k = .free
  ·rw [if_pos hk]
   cases e : env.cells.lookup n with
   | none =>
    rcases h with h | ⟨h, h2⟩
    ·exact .inl h
    ·rcases List.mem_cons.mp h with h | h
     ·cases h; rw [e] at h2; cases h2
     ·exact .inr ⟨h, h2⟩
   | some a =>
    dsimp only
    rw [List.lookup_cons]
    by_cases hx : x = n
    ·subst hx; simp
    ·have : (x == n) = false := by simpa using hx
     rw [this]
     rcases h with h | ⟨h, h2⟩
     ·exact .inl h
     ·rcases List.mem_cons.mp h with h | h
      ·cases h; exact absurd rfl hx
      ·exact .inr ⟨h, h2⟩
  ·rw [if_neg hk]
   rcases h with h | ⟨h, h2⟩
   ·exact .inl h
   ·rcases List.mem_cons.mp h with h | h
    ·cases h; exact absurd rfl hk
    ·exact .inr ⟨h, h2⟩
theorem Zh9 {env : Env} : ∀ {names : List (Str × NameKind)} {x : Str}, names.lookup x = some .free →
  ((names.map fun (n, k) => if (k == NameKind.free && env.scope.kind == .function && env.kindOf n == some .cell) then (n, NameKind.cell) else (n, k)).lookup x = some .cell ∨
   (names.map fun (n, k) => if (k == NameKind.free && env.scope.kind == .function && env.kindOf n == some .cell) then (n, NameKind.cell) else (n, k)).lookup x = some .free)
 | [], _, h => by simp at h
 | (n, k) :: r, x, h => by
  have ih := @Zh9 env r x
  show List.lookup x ((if (k == NameKind.free && env.scope.kind == .function && env.kindOf n == some .cell) = true then (n, NameKind.cell) else (n, k)) :: _) = _ ∨ List.lookup x ((if (k == NameKind.free && env.scope.kind == .function && env.kindOf n == some .cell) = true then (n, NameKind.cell) else (n, k)) :: _) = _
  cases hx : x == n with
  | true =>
   simp only [List.lookup_cons, hx] at h
   cases h
   by_cases hc : (NameKind.free == NameKind.free && env.scope.kind == .function && env.kindOf n == some .cell) = true
   ·rw [if_pos hc]; simp only [List.lookup_cons, hx]; simp
   ·rw [if_neg hc]; simp only [List.lookup_cons, hx]; simp
  | false =>
   simp only [List.lookup_cons, hx] at h
   by_cases hc : (k == NameKind.free && env.scope.kind == .function && env.kindOf n == some .cell) = true
   ·rw [if_pos hc]; simp only [List.lookup_cons, hx]; exact ih h
   ·rw [if_neg hc]; simp only [List.lookup_cons, hx]; exact ih h
theorem Zgn {env : Env} : ∀ {names : List (Str × NameKind)} {x : Str}, (∀ y ∈ names, y.2 ≠ .cell) →
  ((names.map fun (n, k) => if (k == NameKind.free && env.scope.kind == .function && env.kindOf n == some .cell) then (n, NameKind.cell) else (n, k)).lookup x = some .cell ∨
   (names.map fun (n, k) => if (k == NameKind.free && env.scope.kind == .function && env.kindOf n == some .cell) then (n, NameKind.cell) else (n, k)).lookup x = some .free) -> (x, NameKind.free) ∈ names
 | [], _, _, h => by simp at h
 | (n, k) :: r, x, hn, h => by
  have ih := @Zgn env r x (fun y hy => hn y (List.mem_cons_of_mem _ hy))
  have h : List.lookup x ((if (k == NameKind.free && env.scope.kind == .function && env.kindOf n == some .cell) = true then (n, NameKind.cell) else (n, k)) :: _) = _ ∨ List.lookup x ((if (k == NameKind.free && env.scope.kind == .function && env.kindOf n == some .cell) = true then (n, NameKind.cell) else (n, k)) :: _) = _ := h
  cases hx : x == n with
  | true =>
   have hx' : x = n := by simpa using hx
   subst hx'
   by_cases hc : (k == NameKind.free && env.scope.kind == .function && env.kindOf x == some .cell) = true
   ·have hk : k = .free := by
     rw [Bool.and_eq_true, Bool.and_eq_true] at hc
     simpa using hc.1.1
    subst hk; simp
   ·rw [if_neg hc] at h
    simp only [List.lookup_cons, hx] at h
    rcases h with h | h
    ·cases h; exact absurd rfl (hn (x, .cell) (by simp))
    ·cases h; simp
  | false =>
   refine List.mem_cons_of_mem _ (ih ?_)
   by_cases hc : (k == NameKind.free && env.scope.kind == .function && env.kindOf n == some .cell) = true
   ·rw [if_pos hc] at h; simp only [List.lookup_cons, hx] at h; exact h
   ·rw [if_neg hc] at h; simp only [List.lookup_cons, hx] at h; exact h
noncomputable def blk (X : Cx) (scope : Scope) (N : List Str) (cl : List (Str × Addr)) (C : Addr) (s : Shared) (H : Hp) (fp : List Addr) (pn : List (Addr × Obj)) : Cx where
 prog := X.prog
 w := X.w
 K := X.K
 mg := X.mg
 base := X.base
 A := X.A
 N := N
 s₀ := s
 H₀ := H
 env := compEnvC scope cl C X.env
 outer := X.stack
 stack := X.stack
 ex := fp
 fn := fun _ => false
 calm := X.calm
 pn := pn
 xe := fun _ _ => False
structure BlkOk (X : Cx) (scope : Scope) (x : Str) (cn : List Str) (ci : List Nat) : Prop where
 kind : scope.kind = .function
 nocell : ∀ y ∈ scope.names, y.2 ≠ .cell
 names : ∀ y ∈ scope.names, y.2 = .local -> scope.names.lookup y.1 = some .local
 tgt : scope.names.lookup x = some .local
 free : ∀ y ∈ scope.names, y.2 = .free -> (X.env.cells.lookup y.1).isSome = true
 nd : (x :: cn).Nodup
 len : ci.length = cn.length
 cap : ∀ (j : Nat) (y : Str), cn[j]? = some y -> ∃ i, ci[j]? = some i ∧ X.N[i]? = some y ∧ scope.names.lookup y = some .free ∧ (X.env.kindOf y = some .cell ∨ X.env.kindOf y = some .free)
noncomputable def Zoq (ci : List Nat) (σ : L2.St) : L2.St := ci.map fun i => (σ[i]?).join
section
variable {X : Cx} {pins : List (Addr × Obj)} {σ : L2.St} {H : Hp} {s : Shared} {scope : Scope} {x : Str} {cn : List Str} {ci : List Nat} {fp : List Addr}
theorem Zxk {h₁ : Heap} {tk : Nat} {o₁ : Obj} (I : Inv X pins σ H s) (B : BlkOk X scope x cn ci) (hf : ∀ b ∈ fp, Zqs X pins H b) (hlt : ∀ b ∈ fp, b < s.heap.objs.size)
  (hns : h₁.Ns s.heap.objs.size (fun _ => none)) (hsb : Heap.SameBut s.heap.objs.size (s.heap.push o₁) h₁) :
  Inv (blk X scope (x :: cn) (Zk8 X.env scope.names []) s.heap.objs.size s H fp (X.pn ++ pins)) [] (none :: Zoq ci σ) H { s with heap := h₁, toks := tk } := by
 have old : ∀ b o, s.heap.get? b = some o -> h₁.get? b = some o := fun b o e => hsb.extBut b o (Nat.ne_of_lt (Heap.lt_size e)) (Heap.get?_push_of_some _ e)
 have sub := Zjv X.env scope.names [] (by intro x c h; simp at h)
 have has : ∀ y, (y, NameKind.free) ∈ scope.names -> ∃ c, (Zk8 X.env scope.names []).lookup y = some c := fun y hy =>
  Option.isSome_iff_exists.mp (Zng X.env scope.names [] y (.inr ⟨hy, B.free _ hy rfl⟩))
 refine ⟨⟨I.ok.mod, B.kind, I.ok.glob, I.ok.blt, Nat.le_refl _, fun y z c h1 h2 => I.ok.inj y z c (sub y c h1) (sub z c h2), fun y hy => has y (Zgn B.nocell hy), fun y c hy => absurd hy (by show ¬ (false = true); simp), I.ok.hd, I.ok.frames, .inl rfl,
   fun b hb => ⟨Nat.ne_of_lt (hlt b hb), fun y c e => (hf b hb).2.2.2.2.1 y c (sub y c e)⟩, I.bs, Nat.le_trans I.ok.bsz I.sz, fun b o e hb => ?_, fun b hb z => ?_, I.stack, I.stkFree⟩,
  rfl, I.bare, Un.kept old, ⟨_, hns, fun i y v h1 h2 h3 => ?_⟩, fun y c e => ?_, I.hok.fresh (Nat.le_refl _), fun y c e => I.freeC y c (sub y c e), fun p hp => ?_, I.hok.kept old, ?_⟩
 ·rcases (hf b hb).2.2.2.1 with z | z
  ·exact I.ok.noex b o e z
  ·exact absurd (Nat.lt_of_lt_of_le (Heap.lt_size e) (Nat.le_trans I.ok.bsz z)) (Nat.lt_irrefl _)
 ·exact (List.mem_cons.mp (I.stkSub b z)).elim (hf b hb).2.1 (hf b hb).2.2.1
 ·cases i with
  | zero => simp at h2
  | succ j =>
   have h1' : cn[j]? = some y := by simpa [blk] using h1
   have h2' : (Zoq ci σ)[j]? = some (some v) := by simpa using h2
   obtain ⟨i, e1, e2, e3, e4⟩ := B.cap j y h1'
   have e5 : σ[i]? = some (some v) := by
    unfold Zoq at h2'
    rw [List.getElem?_map, e1] at h2'
    simp at h2'
    cases e : σ[i]? with
    | none => rw [e] at h2'; cases h2'
    | some o => rw [e] at h2'; simp at h2'; rw [h2']
   obtain ⟨m, hn, hl⟩ := I.loc
   have hv : Vis X.env.scope y := by
    rcases e4 with e4 | e4
    ·exact .inr (.inl e4)
    ·exact .inr (.inr e4)
   obtain ⟨u, r, l⟩ := hl i y v e2 e5 hv
   refine ⟨u, r, .inr ⟨Zh9 e3, ?_⟩⟩
   obtain ⟨c, ec⟩ := has y (PySem.mem_of_lookup e3)
   refine ⟨c, ec, ?_⟩
   rcases l with ⟨l, _⟩ | ⟨_, c', ec', hc⟩
   ·rcases e4 with e4 | e4 <;> rw [e4] at l <;> cases l
   ·rw [sub y c ec] at ec'
    cases ec'
    obtain ⟨ob, q1, q2⟩ := hc
    exact ⟨ob, old _ _ q1, q2⟩
 ·obtain ⟨v, ob, q1, q2⟩ := I.cell y c (sub y c e)
  exact ⟨v, ob, old _ _ q1, q2⟩
 ·have hp' : p ∈ X.pn ++ pins := by simpa [blk] using hp
  obtain ⟨q1, q2, q3, q4, q5⟩ := I.pin p hp'
  refine ⟨old _ _ q1, q2, Nat.ne_of_lt (Heap.lt_size q1), fun z => ?_, q5⟩
  exact (List.mem_cons.mp (I.stkSub p.1 z)).elim q3 q4
 ·simp [blk, Zoq, B.len]
noncomputable def PTs (X : Cx) (ifs : List Expr) (t : TT) : Prop :=
 ∀ (pins : List (Addr × Obj)) (s : Shared) (σ : L2.St) (H : Hp) (Q : Bool -> Hp -> Prop), Inv X pins σ H s -> t σ H Q →
  wpAny (model X.prog X.w) X.A (forIn ifs true fun c r => if r = true then do let ok ← isTrue c X.env (eval c X.env); pure (ForInStep.yield ok) else pure (ForInStep.yield r)) (TP X pins σ Q) X.xe s
theorem Zwm : PTs X [] (fun _ H Q => Q true H) := fun _ _ _ H _ I h => wpAny_tests_nil ⟨H, I, h⟩
theorem Zv1 {c : Expr} {t : TT} (h : PT X c t) : PTs X [c] t := fun pins s σ H Q I q => wpAny_tests_one (h pins s σ H Q I q)
noncomputable def LcW (J : It) (ci : List Nat) (tt : TT) (te : TE) (σ : L2.St) (Q : VK) (H1 : Hp) : Prop := ∀ p, H1 p = none -> ∃ W : Nat -> Nat -> List V -> Hp -> Prop, (∃ m, W 0 m [] (upd H1 p (.lst []))) ∧ ∀ i m ys H, W i m ys H →
 H p = some (.lst ys) ∧ ((J.stop i H ∧ Q (.ref p) H) ∨ (J.go i H ∧ ∀ v H', J.yld i H v H' -> tt (some v :: Zoq ci σ) H' fun b H2 =>
  if b = true then te (some v :: Zoq ci σ) H2 fun y H3 => H3 p = some (.lst ys) ∧ ys.length < sizeLine ∧ ∃ m', m' < m ∧ W (i + 1) m' (ys ++ [y]) (upd H3 p (.lst (ys ++ [y])))
  else ∃ m', m' < m ∧ W (i + 1) m' ys H2))
structure Gone (X : Cx) (pins : List (Addr × Obj)) (H : Hp) (s : Shared) (C : Addr) : Prop where
 ns : ∃ m, s.heap.Ns C m
 free : H C = none
 nl : C ≠ X.env.locals
 up : X.s₀.heap.objs.size ≤ C
 nc : ∀ x c, X.env.cells.lookup x = some c -> c ≠ C
 np : ∀ p ∈ X.pn ++ pins, p.1 ≠ C
theorem Gone.go {σ : L2.St} {h' : Heap} {C : Addr} (g : Gone X pins H s C) (I : Inv X pins σ H s) (hs : Heap.SameBut C s.heap h') : Inv X pins σ H { s with heap := h' } :=
 I.turned (t' := s.toks) (fun b o hb e => hs.extBut b o hb e) g.free g.nl (.inr g.up) g.nc g.np
theorem Zm3 {elt iter : Expr} {px pos : Pos} {ifs : List Expr} {tt : TT} {te : TE} {Q : VK} {E : Value -> Shared -> Prop} {RR : Value -> Addr -> Result -> Shared -> Prop} {it : Addr} {tn : Nat -> Heap -> Prop} {J : It}
  (I : Inv X pins σ H s) (hc : X.calm = true) (B : BlkOk X scope x cn ci) (T : Turn X.prog X.w X.K (.Name x px) J fp it tn) (st : tn 0 s.heap) (hf : ∀ b ∈ fp, Zqs X pins H b)
  (ht : ∀ cl C s H fp pn, PTs (blk X scope (x :: cn) cl C s H fp pn) ifs tt) (he : ∀ cl C s H fp pn, PE (blk X scope (x :: cn) cl C s H fp pn) elt te)
  (hw : LcW J ci tt te σ Q H) (hRR : ∀ p C H' s', Inv X pins σ H' s' -> Gone X pins H' s' C -> Q (.ref p) H' -> RR (.ref p) C (.ok .next) s') :
  wpAny (model X.prog X.w) X.A (newList []) (fun acc s₃ => wpAny (model X.prog X.w) X.A (newFunctionEnv scope X.env.globals (Zk8 X.env scope.names []) [] X.env.qual none .none (some X.env)) (fun cenv s₄ =>
   codeAny (model X.prog X.w) X.A (.compStart (.ListComp elt [⟨.Name x px, iter, ifs, 0⟩] scope pos) 0 (.ref it) acc { cenv with scope := relabel scope X.env }) (RR acc cenv.locals) s₄) E s₃) E s := by
 have hp0 : H s.heap.objs.size = none := I.hok.fresh (Nat.le_refl _)
 obtain ⟨W, ⟨m0, w0⟩, turn⟩ := hw _ hp0
 refine wpAny_newObj_type (wpAny_newFunctionEnv B.nocell (by intro y hy; simp at hy) (fun h₁ hns₁ hsb₁ => ?_) B.kind)
 dsimp only at hns₁ hsb₁ ⊢
 have I3 : Inv X pins σ (upd H s.heap.objs.size (.lst [])) { s with heap := s.heap.push { cls := .type "list", dict := none, data := .seq ([] : List Value).toArray } } :=
  I.laid (t' := s.toks) (fun b u e => Heap.get?_push_of_some _ e) (Nat.le_refl _) ⟨Nat.zero_le _, [], 0, .nil, Heap.get?_push_size _ rfl⟩
 generalize hH3 : s.heap.push { cls := .type "list", dict := none, data := .seq ([] : List Value).toArray } = hp3 at hns₁ hsb₁ I3 ⊢
 have flt : ∀ b ∈ fp, b < s.heap.objs.size := fun b hb => by
  obtain ⟨o, e, _⟩ := T.obj 0 _ st b hb
  exact Heap.lt_size e
 have sz3 : hp3.objs.size = s.heap.objs.size + 1 := by rw [← hH3, Heap.size_push]
 have f3 : ∀ b ∈ fp, Zqs X pins (upd H s.heap.objs.size (.lst [])) b := fun b hb => ⟨by rw [Zah (Nat.ne_of_lt (flt b hb))]; exact (hf b hb).1, (hf b hb).2⟩
 have old3 : ∀ b o, s.heap.get? b = some o -> hp3.get? b = some o := fun b o e => by rw [← hH3]; exact Heap.get?_push_of_some _ e
 have I4 := Zxk (s := { s with heap := hp3 }) (tk := s.toks + ([] : List (Str × Value)).length) I3 B f3 (fun b hb => by show b < hp3.objs.size; rw [sz3]; exact Nat.lt_succ_of_lt (flt b hb)) (by simpa using hns₁) hsb₁
 have old4 : ∀ b o, hp3.get? b = some o -> h₁.get? b = some o := fun b o e => hsb₁.extBut b o (Nat.ne_of_lt (Heap.lt_size e)) (Heap.get?_push_of_some _ e)
 generalize hX' : blk X scope (x :: cn) (Zk8 X.env scope.names []) hp3.objs.size { s with heap := hp3 } (upd H s.heap.objs.size (.lst [])) fp (X.pn ++ pins) = X' at I4
 have ePr : X'.prog = X.prog := by rw [← hX']; rfl
 have eW : X'.w = X.w := by rw [← hX']; rfl
 have eK : X'.K = X.K := by rw [← hX']; rfl
 have eA : X'.A = X.A := by rw [← hX']; rfl
 have eEnv : X'.env = compEnvC scope (Zk8 X.env scope.names []) hp3.objs.size X.env := by rw [← hX']; rfl
 have eEx : X'.ex = fp := by rw [← hX']; rfl
 have ht' : PTs X' ifs tt := by rw [← hX']; exact ht _ _ _ _ _ _
 have he' : PE X' elt te := by rw [← hX']; exact he _ _ _ _ _ _
 have eXe : X'.xe = fun _ _ => False := by rw [← hX']; rfl
 have hg' : PG X' (.Name x px) (Zrw 0) := by
  rw [← hX']
  exact Zo3 (X := blk X scope (x :: cn) _ _ _ _ _ _) B.nd rfl (.inl (lookup_relabel_local B.tgt)) (.inr (lookup_relabel_local B.tgt))
 -- the iterator's objects, seen from the block
 have stat : ∀ {H' : Hp}, (∀ b ∈ fp, H' b = none) -> ∀ b ∈ fp, Zqs X' [] H' b := fun {H'} hn b hb => by
  rw [← hX']
  refine ⟨hn b hb, (by show b ≠ hp3.objs.size; rw [sz3]; exact Nat.ne_of_lt (Nat.lt_succ_of_lt (flt b hb))), fun z => (List.mem_cons.mp (I3.stkSub b z)).elim (hf b hb).2.1 (hf b hb).2.2.1, .inl hb, fun y c e => ?_, fun p hp => ?_⟩
  ·exact (hf b hb).2.2.2.2.1 y c (Zjv X.env scope.names [] (by intro x c h; simp at h) y c e)
  ·exact (hf b hb).2.2.2.2.2 p (by simpa [blk] using hp)
 have back : ∀ {σ' : L2.St} {H' : Hp} {s' : Shared}, Inv X' [] σ' H' s' -> Inv X pins σ H' s' ∧ Gone X pins H' s' hp3.objs.size := fun {σ' H' s'} I5 => by
  have u : Un (frs X.stack) fp (upd H s.heap.objs.size (.lst [])) H' hp3 s'.heap := by
   have := I5.base
   rw [← hX'] at this
   exact this
  have hok : HOk X.prog X.w H' s'.heap := by have := I5.hok; rw [ePr, eW] at this; exact this
  have ho : s'.os = s.os := by have := I5.os; rw [← hX'] at this; exact this
  refine ⟨I3.call' ho u hok I5.bare fun b hb => ⟨(hf b hb).2.2.2.1, (hf b hb).2.1, (hf b hb).2.2.2.2.1, (hf b hb).2.2.2.2.2⟩, ?_, ?_, ?_, ?_, fun y c e z => ?_, fun p hp z => ?_⟩
  ·obtain ⟨m, hn, _⟩ := I5.loc
   rw [eEnv] at hn
   exact ⟨m, hn⟩
  ·have := I5.free
   rw [eEnv] at this
   exact this
  ·exact Nat.ne_of_gt (I3.lt)
  ·exact I3.sz
  ·obtain ⟨v, q⟩ := I3.cell y c e
   exact absurd (Nat.lt_of_lt_of_le q.lt (by rw [z]; exact Nat.le_refl _)) (Nat.lt_irrefl _)
  ·have := Heap.lt_size (I3.pin p hp).1
   rw [z] at this
   exact Nat.lt_irrefl _ this
 have loop : codeAny (model X.prog X.w) X.A (.compLoop (.ListComp elt [⟨.Name x px, iter, ifs, 0⟩] scope pos) 0 (.ref it) (.ref s.heap.objs.size) (compEnvC scope (Zk8 X.env scope.names []) hp3.objs.size X.env))
   (RR (.ref s.heap.objs.size) hp3.objs.size) { s with heap := h₁, toks := s.toks + ([] : List (Str × Value)).length } := by
  refine codeAny_loop rfl (fun n s' => ∃ i o ys H', Inv X' [] (o :: Zoq ci σ) H' s' ∧ tn i s'.heap ∧ (∀ b ∈ fp, H' b = none) ∧ W i n ys H') (fun n s' hI => ?_) m0
   ⟨0, none, [], _, I4, T.keep _ _ _ st (fun b hb o e => old4 b o (old3 b o e)), fun b hb => (f3 b hb).1, w0⟩
  obtain ⟨i, o, ys, H', I5, st5, fr5, w5⟩ := hI
  show wpAny _ X.A ((compTurn (.ListComp elt [⟨.Name x px, iter, ifs, 0⟩] scope pos) 0 (.ref it) (.ref s.heap.objs.size) (compEnvC scope (Zk8 X.env scope.names []) hp3.objs.size X.env)).onRaise (fun x => do noteFrame x (compEnvC scope (Zk8 X.env scope.names []) hp3.objs.size X.env); theTreesLotGoes x)) _ _ s'
  refine wpAny_noted ?_
  rw [compTurn_list, ← eEnv, ← ePr, ← eW, ← eA]
  refine wpAny_mono (E := fun _ _ => False) ?_ (fun _ _ q => q) (fun _ _ z => z.elim)
  obtain ⟨hpl, wt⟩ := turn i n ys H' w5
  refine wpAny_bind (wpAny_standAt (wpAny_bind ?_))
  rcases wt with ⟨stop, q⟩ | ⟨go, step⟩
  ·have z := T.done X' ePr eW eK (by rw [← hX']; exact hc) i [] s' _ H' (fun _ _ => False) I5 (stat fr5) st5 stop
   rw [← ePr, ← eW] at z
   refine thn z fun r s6 zz => ?_
   obtain ⟨hr, I6⟩ := zz
   subst hr
   obtain ⟨J1, g1⟩ := back I6
   exact wpAny_pure (hRR _ _ H' s6 J1 g1 q)
  ·have z := T.item X' ePr eW eK (by rw [← hX']; exact hc) i [] s' _ H' (fun _ _ => False) I5 (stat fr5) st5 go
   rw [← ePr, ← eW] at z
   refine thn z fun r s6 zz => ?_
   obtain ⟨u, hr, h6⟩ := zz
   subst hr
   refine wpAny_bind (thn h6 fun _ s7 zz => ?_)
   obtain ⟨v, H7, I7, r7, y7, st7, fr7⟩ := zz
   have I7' := I7.pinned (stat fr7) (T.obj _ _ st7)
   rw [← eXe]
   refine wpAny_bind (thn (hg' _ s7 _ H7 v u _ I7' r7 (show Zrw 0 v (o :: Zoq ci σ) H7 (fun σ8 H8 => σ8 = some v :: Zoq ci σ ∧ H8 = H7) from ⟨rfl, rfl⟩)) fun _ s8 zz => ?_)
   obtain ⟨σ8, H8, I8, e8, e8'⟩ := zz
   subst e8 e8'
   refine wpAny_bind (thn (ht' _ s8 _ _ _ I8 (step v _ y7)) fun b s9 zz => ?_)
   obtain ⟨H9, I9, q9⟩ := zz
   have tnK : ∀ {σ' : L2.St} {H' : Hp} {s' : Shared}, Inv X' (([] : List (Addr × Obj)) ++ Zk5 fp s7.heap) σ' H' s' -> tn (i + 1) s'.heap ∧ ∀ b ∈ fp, H' b = none := fun {σ' H' s'} I' =>
    ⟨T.keep _ _ _ st7 fun b hb o e => (I'.pin (b, o) (List.mem_append_right _ (List.mem_append_right _ (Zep hb e)))).1, fun b hb => by
     obtain ⟨ob, e, d⟩ := T.obj _ _ st7 b hb
     exact (I'.pin (b, ob) (List.mem_append_right _ (List.mem_append_right _ (Zep hb e)))).2.1⟩
   cases b with
   | false =>
    obtain ⟨m', hm, w9⟩ := q9
    obtain ⟨t9, f9⟩ := tnK I9
    exact wpAny_pure ⟨rfl, m', hm, i + 1, _, ys, H9, I9.unpinned, t9, f9, w9⟩
   | true =>
    refine wpAny_bind (wpAny_bind (thn (he' _ s9 _ _ _ I9 q9) fun yv s10 zz => ?_))
    obtain ⟨y, H10, I10, r10, hp10, hz10, m', hm, w10⟩ := zz
    refine wpAny_bind (thn (Zlg (X := X') _ s10 _ H10 (.ref s.heap.objs.size) [y] (.ref s.heap.objs.size) [yv] (fun _ H11 => H11 = upd H10 s.heap.objs.size (.lst (ys ++ [y]))) I10 rfl (.cons r10 .nil) ⟨_, ys, y, rfl, rfl, hp10, hz10, rfl⟩) fun _ s11 zz => ?_)
    obtain ⟨_, H11, I11, _, e11⟩ := zz
    subst e11
    obtain ⟨t11, f11⟩ := tnK I11
    exact wpAny_pure (wpAny_pure ⟨rfl, m', hm, i + 1, _, ys ++ [y], _, I11.unpinned, t11, f11, w10⟩)
 exact codeAny_compStart_list loop (T.self _ 0 _ _ _ (T.keep _ _ _ st (fun b hb o e => old4 b o (old3 b o e))) loop)
noncomputable def tLC (wi : TI) (ci : List Nat) (tt : TT) (te : TE) : TE := fun σ H Q => wi σ H fun J H1 => LcW J ci tt te σ Q H1
theorem pe_lc {elt iter : Expr} {px pos : Pos} {ifs : List Expr} {wi : TI} {tt : TT} {te : TE} (hc : X.calm = true) (B : BlkOk X scope x cn ci) (hi : PI X (.Name x px) iter wi)
  (ht : ∀ cl C s H fp pn, PTs (blk X scope (x :: cn) cl C s H fp pn) ifs tt) (he : ∀ cl C s H fp pn, PE (blk X scope (x :: cn) cl C s H fp pn) elt te)
  (hs : ∀ x, foldedSetIterable iter X.env x = pure x := by rintro _; rfl) : PE X (.ListComp elt [⟨.Name x px, iter, ifs, 0⟩] scope pos) (tLC wi ci tt te) := by
 intro pins s σ H Q I h
 rw [eval_ListComp]
 refine wpAny_comprehension_free (use := none) rfl hs (Zi2 X.env scope B.free) B.kind B.names ?_
 refine thn (hi pins s σ H _ I h) fun v s1 h1 => thn h1 fun itv s2 h2 => ?_
 obtain ⟨it, fp, tn, J, H2, e, I2, T, st2, f2, w2⟩ := h2
 subst e
 refine Zm3 (RR := fun acc C => compPost (model X.prog X.w) X.A X.xe none (EP X pins σ Q) acc C) I2 hc B T st2 f2 ht he w2 fun p C H' s' I' g q => ?_
 obtain ⟨m, hn⟩ := g.ns
 exact ⟨m, hn, fun h' hs' => ⟨.ref p, H', g.go I' hs', rfl, q⟩⟩
theorem Zsh {elt iter : Expr} {px py pos spos : Pos} {ifs : List Expr} {wi : TI} {tt : TT} {te : TE} {i : Nat} {y : Str} (hc : X.calm = true) (B : BlkOk X scope x cn ci) (hi : PI X (.Name x px) iter wi)
  (ht : ∀ cl C s H fp pn, PTs (blk X scope (x :: cn) cl C s H fp pn) ifs tt) (he : ∀ cl C s H fp pn, PE (blk X scope (x :: cn) cl C s H fp pn) elt te)
  (hN : X.N.Nodup) (hiN : X.N[i]? = some y) (hy : X.env.scope.names.lookup y = some .local)
  (hsw : swapsWith (.ListComp elt [⟨.Name x px, iter, ifs, 0⟩] scope pos) (some (.Name y py)) spos.line X.env = pure true := by rfl)
  (hs : ∀ x, foldedSetIterable iter X.env x = pure x := by rintro _; rfl) : PS X (.Assign [.Name y py] (.ListComp elt [⟨.Name x px, iter, ifs, 0⟩] scope pos) spos) (tAsg (tLC wi ci tt te) (Zrw i)) := by
 intro pins s σ H E I h
 rw [exec_Assign_Name_used _ _ _ _ hsw]
 refine wpAny_bind (wpAny_standAt (wpAny_bind ?_))
 show wpAny _ X.A (do let _ ← comprehension (.ListComp elt [⟨.Name x px, iter, ifs, 0⟩] scope pos) scope X.env _ (newList []) false (eval iter X.env) (some (assign (.Name y py) X.env))) _ _ s
 refine wpAny_bind (wpAny_mono (wpAny_comprehension_free (use := some (assign (.Name y py) X.env)) (Q := fun _ s' => SP X pins E .next s') rfl hs (Zi2 X.env scope B.free) B.kind B.names ?_) (fun _ s' hq => wpAny_pure (wpAny_pure hq)) fun _ _ e => e)
 refine thn (hi pins s σ H _ I h) fun v s1 h1 => thn h1 fun itv s2 h2 => ?_
 obtain ⟨it, fp, tn, J, H2, e, I2, T, st2, f2, w2⟩ := h2
 subst e
 refine Zm3 (RR := fun acc C => compPost (model X.prog X.w) X.A X.xe (some (assign (.Name y py) X.env)) (fun _ s' => SP X pins E .next s') acc C) I2 hc B T st2 f2 ht he w2 fun p C H' s' I' g q => ?_
 show wpAny _ X.A (assign (.Name y py) X.env (.ref p)) _ _ _
 have hk : X.env.kindOf y = some .local := hy
 refine wpAny_assign_Name (Zka I' hN hiN (.inl hy) (v := .ref p) (u := .ref p) rfl (fun s'' I'' ch => ?_) (.inr hy))
 obtain ⟨m, hn⟩ := g.ns
 obtain ⟨a, hsb, ha⟩ := ch
 have haC : C ≠ a := by
  rcases ha with ha | ha
  ·rw [ha]; exact g.nl
  ·exact Ne.symm (g.nc y a ha)
 have hn2 : s''.heap.Ns C m := hn.sameBut hsb haC
 exact ⟨m, hn2, fun h' hs' => ⟨_, H', Gone.go ⟨⟨m, hn2⟩, g.free, g.nl, g.up, g.nc, g.np⟩ I'' hs', q⟩⟩
end
noncomputable def Zx4 (ci : List Nat) (σd : SD) : SD := ci.map fun i => (σd[i]?).join
open Classical in
noncomputable def Zem (own : Zgr) (c0 : SD) (tt : TF) (te : EF) : List D -> HD -> Option (List D × HD)
 | [], H => if Zck own H then some ([], H) else none
 | x :: r, H => if Zck own H then (tt (some x :: c0) H).bind fun t => if t.1 = true then (te (some x :: c0) t.2).bind fun e => (Zem own c0 tt te r e.2).map fun q => (e.1 :: q.1, q.2) else Zem own c0 tt te r t.2 else none
noncomputable def eLC (it : ItF) (ci : List Nat) (tt : TF) (te : EF) : EF := fun σ H => (it σ H).bind fun p => (Zem p.1.2 (Zx4 ci σ) tt te p.1.1 p.2).bind fun q => mkL q.1 q.2
noncomputable def Zr0 : TF := fun _ H => some (true, H)
noncomputable def PTsf (X : Cx) (ifs : List Expr) (t : TF) : Prop := PTs X ifs (rdT X.K t)
section
variable {X : Cx} {scope : Scope} {x : Str} {cn : List Str} {ci : List Nat}
theorem Zsc : PTsf X [] Zr0 := by
 rintro pins s σ H Q I ⟨ι, σd, Hd, b, Hd', sr, hr, e, q⟩
 cases e
 exact Zwm pins s σ H Q I (q H ι Le.refl hr)
theorem Ztj {c : Expr} {t : TF} (h : PTf X c t) : PTsf X [c] t := Zv1 h
theorem SRep.cap {K : PySem.W.Frag} {H : Hp} {ι : List Addr} {σ : L2.St} {σd : SD} {d : D} {v : V} (s : SRep K H ι σ σd) (r : Rep K H ι d v) : SRep K H ι (some v :: Zoq ci σ) (some d :: Zx4 ci σd) := by
 refine ⟨by simp [Zoq, Zx4], fun i e h => ?_⟩
 cases i with
 | zero => simp at h; subst h; exact ⟨v, rfl, r⟩
 | succ j =>
  simp only [List.getElem?_cons_succ, Zoq, Zx4, List.getElem?_map] at h ⊢
  cases ej : ci[j]? with
  | none => rw [ej] at h; simp at h
  | some i =>
   rw [ej] at h
   simp only [Option.map_some, Option.some.injEq] at h ⊢
   cases es : σd[i]? with
   | none => rw [es] at h; simp at h
   | some o =>
    rw [es] at h
    simp at h
    subst h
    obtain ⟨u, h1, h2⟩ := s.var i e es
    exact ⟨u, by rw [h1]; rfl, h2⟩
theorem Zyd {K : PySem.W.Frag} {it : ItF} {tt : TF} {te : EF} {σ : L2.St} {H : Hp} {Q : VK} (h : rdE K (eLC it ci tt te) σ H Q) : tLC (rdI K it) ci (rdT K tt) (rdE K te) σ H Q := by
 obtain ⟨ι, σd, Hd, d, Hd', s, hr, e, q⟩ := h
 obtain ⟨⟨⟨xs, own⟩, H1⟩, e1, e⟩ := Zo e
 obtain ⟨⟨ds, H2⟩, e2, e⟩ := Zo e
 obtain ⟨hz, e⟩ := Znl e
 cases e
 dsimp only at e2 hz
 refine ⟨ι, σd, Hd, xs, own, H1, s, hr, e1, fun J H0 ι0 l0 h0 itr p hp => ?_⟩
 have s0 := s.mono l0
 refine ⟨fun i m ys H => m = xs.length - i ∧ i ≤ xs.length ∧ H p = some (.lst ys) ∧ ∃ ι Hd done rest, Le K H0 ι0 H ι ∧ p ∉ ι ∧ HRep K H ι Hd ∧ Paired (Rep K H ι) done ys ∧ Zem own (Zx4 ci σd) tt te (xs.drop i) Hd = some (rest, H2) ∧ ds = done ++ rest,
  ⟨xs.length, by simp, Nat.zero_le _, upd_same, ι0, H1, [], ds, Le.fresh hp _, h0.fresh hp, h0.tup hp _, .nil, by simpa using e2, by simp⟩, ?_⟩
 rintro i m ys H5 ⟨rfl, hi, hpl, ι5, Hd5, done, rest, l5, np5, h5, pd5, e5, eds⟩
 refine ⟨hpl, ?_⟩
 by_cases hlt : i < xs.length
 ·have ed : xs.drop i = xs[i] :: xs.drop (i + 1) := List.drop_eq_getElem_cons hlt
  rw [ed, Zem] at e5
  split at e5
  ·rename_i ok
   obtain ⟨⟨b6, H6⟩, e6, e5⟩ := Zo e5
   refine .inr ⟨itr.go i H5 ι5 Hd5 l5 h5 ok hlt, fun v H' y => ?_⟩
   obtain ⟨ι6, l6, h6, r6⟩ := itr.yld i H5 ι5 Hd5 xs[i] v H' l5 h5 ok (by simp [hlt]) y
   obtain ⟨hp6, np6⟩ := l6.frame p _ hpl np5
   have s6 := SRep.cap (ci := ci) (s0.mono (l5.trans l6)) r6
   refine ⟨ι6, _, Hd5, b6, H6, s6, h6, e6, fun H7 ι7 l7 h7 => ?_⟩
   obtain ⟨hp7, np7⟩ := l7.frame p _ hp6 np6
   have L7 := (l5.trans l6).trans l7
   cases b6 with
   | true =>
    rw [if_pos rfl]
    dsimp only at e5
    rw [if_pos rfl] at e5
    obtain ⟨⟨d8, H8⟩, e8, e5⟩ := Zo e5
    obtain ⟨⟨r9, H9⟩, e9, e5⟩ := Zm e5
    cases e5
    refine ⟨ι7, _, H6, d8, H8, s6.mono l7, h7, e8, fun v8 H8' ι8 l8 h8 rr8 => ?_⟩
    obtain ⟨hp8, np8⟩ := l8.frame p _ hp7 np7
    have ly : ys.length < sizeLine := by
     rw [← Prd.len pd5]
     rw [eds] at hz
     simp at hz
     omega
    have w8 : Lw K H8' ι8 (upd H8' p (.lst (ys ++ [v8]))) ι8 := Lw.side hp8 _
    refine ⟨hp8, ly, xs.length - (i + 1), by omega, rfl, hlt, upd_same, ι8, H8, done ++ [d8], r9, (L7.trans l8).side hp hp8 _, np8, h8.keep w8 (fun a ha => Zah fun z => by subst z; exact np8 ha), ?_, e9, by rw [eds]; simp⟩
    exact Prd.append (Prd.monoW w8 (Prd.mono ((l6.trans l7).trans l8) pd5)) (.cons (Rep.monoW w8 rr8) .nil)
   | false =>
    rw [if_neg (by simp)]
    dsimp only at e5
    rw [if_neg (by simp)] at e5
    exact ⟨xs.length - (i + 1), by omega, rfl, hlt, hp7, ι7, H6, done, rest, L7, np7, h7, Prd.mono (l6.trans l7) pd5, e5, eds⟩
  ·cases e5
 ·rw [List.drop_eq_nil_of_le (by omega), Zem] at e5
  split at e5
  ·rename_i ok
   have e6 : (([] : List D), Hd5) = (rest, H2) := Option.some.inj e5
   obtain ⟨rfl, rfl⟩ := Prod.mk.inj e6
   refine .inl ⟨itr.stop i H5 ι5 _ l5 h5 ok (by omega), ?_⟩
   have w5 : Lw K H5 ι5 H5 (ι5 ++ [p]) := ⟨fun _ _ z => z, fun _ _ z => z, ⟨[p], rfl⟩, fun _ _ _ z => z⟩
   have L := l0.trans l5
   simp at eds
   subst eds
   refine q _ H5 (ι5 ++ [p]) ⟨L.toLw.trans w5, fun a o ha na => ?_⟩ (h5.add np5 ⟨ys, hpl, Prd.monoW w5 pd5⟩) (Zau.mpr ⟨p, rfl, by rw [← h5.len]; simp⟩)
   obtain ⟨q1, q2⟩ := L.frame a o ha na
   refine ⟨q1, ?_⟩
   have : a ≠ p := fun z => by
    subst z
    have := (l0.frame a o ha na).1
    rw [hp] at this; cases this
   simp [q2, this]
  ·cases e5
theorem Zg5 {elt iter : Expr} {px pos : Pos} {ifs : List Expr} {it : ItF} {tt : TF} {te : EF} (hc : X.calm = true) (B : BlkOk X scope x cn ci) (hi : PIf X (.Name x px) iter it)
  (ht : ∀ cl C s H fp pn, PTsf (blk X scope (x :: cn) cl C s H fp pn) ifs tt) (he : ∀ cl C s H fp pn, PEf (blk X scope (x :: cn) cl C s H fp pn) elt te)
  (hs : ∀ x, foldedSetIterable iter X.env x = pure x := by rintro _; rfl) : PEf X (.ListComp elt [⟨.Name x px, iter, ifs, 0⟩] scope pos) (eLC it ci tt te) :=
 PEi (pe_lc (tt := rdT X.K tt) (te := rdE X.K te) hc B hi ht he hs) fun _ _ _ h => Zyd h
theorem Zej {elt iter : Expr} {px py pos spos : Pos} {ifs : List Expr} {it : ItF} {tt : TF} {te : EF} {i : Nat} {y : Str} (hc : X.calm = true) (B : BlkOk X scope x cn ci) (hi : PIf X (.Name x px) iter it)
  (ht : ∀ cl C s H fp pn, PTsf (blk X scope (x :: cn) cl C s H fp pn) ifs tt) (he : ∀ cl C s H fp pn, PEf (blk X scope (x :: cn) cl C s H fp pn) elt te)
  (hN : X.N.Nodup) (hiN : X.N[i]? = some y) (hy : X.env.scope.names.lookup y = some .local)
  (hsw : swapsWith (.ListComp elt [⟨.Name x px, iter, ifs, 0⟩] scope pos) (some (.Name y py)) spos.line X.env = pure true := by rfl)
  (hs : ∀ x, foldedSetIterable iter X.env x = pure x := by rintro _; rfl) : PSf X (.Assign [.Name y py] (.ListComp elt [⟨.Name x px, iter, ifs, 0⟩] scope pos) spos) (Zav i (eLC it ci tt te)) := by
 refine PSi (Zsh (tt := rdT X.K tt) (te := rdE X.K te) hc B hi ht he hN hiN hy hsw hs) fun E σ H zz => ?_
 obtain ⟨ι, σd, Hd, fl, σd', Hd', s, hr, e, q⟩ := zz
 obtain ⟨⟨x, H1⟩, e1, e⟩ := Zm e
 cases e
 exact Zyd ⟨ι, σd, Hd, x, H1, s, hr, e1, fun v H' ι' l h r => q _ H' ι' l h ((s.mono l).set r i)⟩
end
theorem Zwr : fillsNumberSlot (.type "tuple") "mul" = pure false :=
 PySem.fillsNumberSlot_seq (id := "tuple.__mul__") (r := some (.builtin "tuple.__rmul__")) F.slot_tuple_mul.lookup (by decide +kernel) F.slot_tuple_rmul.lookup (by decide +kernel)
theorem repT : seqRepeat? (.type "tuple") = pure (some (.builtin "tuple.__mul__")) := by
 unfold seqRepeat?
 rw [PySem.seqSlot_of (T := "tuple") (name := "__mul__") (id := "tuple.__mul__") F.slot_tuple_mul.lookup (by decide +kernel), PySem.seqSlot_of (T := "tuple") (name := "__rmul__") (id := "tuple.__rmul__") F.slot_tuple_rmul.lookup (by decide +kernel)]
 rfl
section
variable {dd : Option Addr} {sl : Array (Option Value)}
theorem rmulT (a : Int) (t : Tok) (l : Addr) (items : Array Value) (n : Nat) :
  Meets (Builtin.«int.__rmul__» ⟨[.int a t, .ref l], []⟩) (fun _ R s => s.heap.get? l = some { cls := .type "tuple", dict := dd, data := .seq items n, slots := sl } ∧ R (.ok (.ret Value.notImplemented)) s) :=
 .of_wp fun prog w A R s h => by obtain ⟨hp, g, d, tk, os⟩ := s; obtain ⟨hl, h⟩ := h; wp_walk; exact ⟨_, rfl, h⟩
theorem Zo4 (l : Addr) (items : Array Value) (n : Nat) (x : Int) (u : Tok) (h1 : (decide (x < -(2 ^ 63)) || decide (x ≥ 2 ^ 63)) = false) (h2 : (items.isEmpty || x == 1) = true) :
  Meets (Builtin.«tuple.__mul__» ⟨[.ref l, .int x u], []⟩) (fun _ R s => s.heap.get? l = some { cls := .type "tuple", dict := dd, data := .seq items n, slots := sl } ∧ R (.ok (.ret (.ref l))) s) :=
 .of_wp fun prog w A R s h => by
  obtain ⟨hp, g, d, tk, os⟩ := s; obtain ⟨hl, h⟩ := h
  have f1 := AutoSeq1.idx_int
  wp_walk
  simp only [h1, Bool.false_eq_true, if_false]
  wp_walk using wpAny_loadPart' hl
  simp only [h2, if_true]
  wp_walk using wpAny_loadPart' hl
  exact ⟨_, rfl, h⟩
theorem Zqo (l : Addr) (items : Array Value) (n : Nat) (x : Int) (u : Tok) (h1 : (decide (x < -(2 ^ 63)) || decide (x ≥ 2 ^ 63)) = false) (h2 : (items.isEmpty || x == 1) = false) (h3 : (decide (x ≤ 0) || items.isEmpty) = true) :
  Meets (Builtin.«tuple.__mul__» ⟨[.ref l, .int x u], []⟩) (fun _ R s => s.heap.get? l = some { cls := .type "tuple", dict := dd, data := .seq items n, slots := sl } ∧ R (.ok (.ret (.ref s.heap.objs.size))) { s with heap := s.heap.push { cls := Value.type "tuple", data := Data.seq #[] } }) :=
 .of_wp fun prog w A R s h => by
  obtain ⟨hp, g, d, tk, os⟩ := s; obtain ⟨hl, h⟩ := h
  have f1 := AutoSeq1.idx_int
  wp_walk
  simp only [h1, Bool.false_eq_true, if_false]
  wp_walk using wpAny_loadPart' hl
  try simp only [h2, h3, Bool.false_eq_true, if_false, if_true]
  try (wp_walk using wpAny_loadPart' hl)
  exact ⟨_, rfl, h⟩
theorem Ztl (l : Addr) (items : Array Value) (n : Nat) (x : Int) (u : Tok) (h1 : (decide (x < -(2 ^ 63)) || decide (x ≥ 2 ^ 63)) = false) (h2 : (items.isEmpty || x == 1) = false) (h3 : (decide (x ≤ 0) || items.isEmpty) = false) (h4 : ¬ (items.size * x : Int) > (2 ^ 63 - 1) / 8) (h5 : Builtin.Tuple.tupleTooMany (items.size * x) = false)
  (hs : (List.foldl (fun x1 x2 => x1 ++ x2) #[] (List.replicate x.toNat items)).size ≤ sizeLine) :
  Meets (Builtin.«tuple.__mul__» ⟨[.ref l, .int x u], []⟩) (fun _ R s => s.heap.get? l = some { cls := .type "tuple", dict := dd, data := .seq items n, slots := sl } ∧ R (.ok (.ret (.ref s.heap.objs.size))) { s with heap := s.heap.push { cls := Value.type "tuple", data := Data.seq (List.foldl (fun x1 x2 => x1 ++ x2) #[] (List.replicate x.toNat items)) } }) :=
 .of_wp fun prog w A R s h => by
  obtain ⟨hp, g, d, tk, os⟩ := s; obtain ⟨hl, h⟩ := h
  have f1 := AutoSeq1.idx_int
  wp_walk
  simp only [h1, Bool.false_eq_true, if_false]
  wp_walk using wpAny_loadPart' hl
  simp only [h2, h3, h5, Bool.false_eq_true, if_false, if_neg h4]
  wp_walk using wpAny_loadPart' hl
  exact ⟨_, rfl, h⟩
end
theorem Zis (its : List Value) (m : Nat) : List.foldl (fun x1 x2 => x1 ++ x2) #[] (List.replicate m its.toArray) = (List.replicate m its).flatten.toArray := by
 have := Zg6 its m []
 rw [List.nil_append] at this
 exact this
section
variable {prog : Program} {w : World} {A : Around} {E : Value -> Shared -> Prop} {s : Shared}
theorem Zws {l : Addr} {its : List Value} {k : Int} {t : Tok} {Q : Value -> Shared -> Prop} (p : IsTup s.heap l its.toArray) (h1 : -(2 ^ 63) ≤ k) (h2 : k < 2 ^ 63) (hz : its.length * k.toNat ≤ sizeLine)
  (qs : (its = [] ∨ k = 1) → Q (.ref l) s) (qn : its ≠ [] → k ≠ 1 → Q (.ref s.heap.objs.size) { s with heap := s.heap.push { cls := .type "tuple", data := .seq (List.replicate k.toNat its).flatten.toArray } }) :
  wpAny (model prog w) A (binaryOp .Mult (.ref l) (.int k t)) Q E s := by
 obtain ⟨o, e, hc, n, hd⟩ := p
 obtain ⟨c, dd, da, sl⟩ := o
 have hc' : c = .type "tuple" := hc
 have hd' : da = .seq its.toArray n := hd
 subst hc' hd'
 have b1 : (decide (k < -(2 ^ 63)) || decide (k ≥ 2 ^ 63)) = false := by simp; omega
 refine wpAny_binaryOp_repeat_ref (T := "tuple") (U := "int") (by decide) ⟨_, e, rfl⟩ (fun s' => typeIs_int s' k t) Zwr F.fills_int_mul F.slot_int_rmul repT F.slot_int_index.lookup
  (call_meets F.slot_int_rmul (typeIs_int s k t) F.entry_int_rmul (F.args_int_rmul_2 _ _) (rmulT k t l its.toArray n) ⟨e, rfl, ⟨_, e, rfl⟩, ?_⟩)
 by_cases hs : its = [] ∨ k = 1
 ·exact call_meets F.slot_tuple_mul ⟨_, e, rfl⟩ F.entry_tuple_mul (F.args_tuple_mul_2 _ _) (Zo4 l its.toArray n k t b1 (by rcases hs with h | h <;> simp [h])) ⟨e, qs hs⟩
 ·have hne : its ≠ [] := fun h => hs (.inl h)
  have hk : k ≠ 1 := fun h => hs (.inr h)
  have b2 : (its.toArray.isEmpty || k == 1) = false := by cases its <;> simp_all
  have new := qn hne hk
  by_cases h0 : k ≤ 0
  ·have z : k.toNat = 0 := by omega
   rw [z] at new
   exact call_meets F.slot_tuple_mul ⟨_, e, rfl⟩ F.entry_tuple_mul (F.args_tuple_mul_2 _ _) (Zqo l its.toArray n k t b1 b2 (by simp [h0])) ⟨e, new⟩
  ·have sz : sizeLine = 16777216 := PySem.sizeLine_eq
   have hm : (its.toArray.size : Int) * k ≤ 16777216 := by
    have e1 : k = (k.toNat : Int) := by omega
    rw [List.size_toArray, e1, ← Int.natCast_mul]
    omega
   have b3 : (decide (k ≤ 0) || its.toArray.isEmpty) = false := by cases its <;> simp_all
   refine call_meets F.slot_tuple_mul ⟨_, e, rfl⟩ F.entry_tuple_mul (F.args_tuple_mul_2 _ _) (Ztl l its.toArray n k t b1 b2 b3 (by omega) (by simp only [Builtin.Tuple.tupleTooMany, decide_eq_false_iff_not, sz]; omega) ?_) ⟨e, ?_⟩
   ·rw [Zis, List.size_toArray, Zlz, Nat.mul_comm]; exact hz
   ·rw [Zis]; exact new
end
variable {X : Cx}
noncomputable def rRepT (K : PySem.W.Frag) : R2 := fun x y H Q => ∃ l k xs, x = .ref l ∧ y = .int k ∧ SqT K H l xs ∧ -(2 ^ 63) ≤ k ∧ k < 2 ^ 63 ∧ xs.length * k.toNat ≤ sizeLine ∧ ((xs = [] ∨ k = 1) -> Q (.ref l) H) ∧
 (xs ≠ [] -> k ≠ 1 -> ∀ p, H p = none -> Q (.ref p) (upd H p (.tup (List.replicate k.toNat xs).flatten)))
theorem Zx0 : OpR X (binaryOp .Mult) (rRepT X.K) := by
 intro pins s σ H x y v u Q I rx ry h
 obtain ⟨l, k, xs, rfl, rfl, ha, h1, h2, hz, q1, q2⟩ := h
 cases rx
 obtain ⟨t, rfl⟩ := ry
 obtain ⟨its, r1, p1, _⟩ := I.tuple ha
 refine Zws p1 h1 h2 (by rw [← r1.length]; exact hz) (fun z => ⟨.ref l, H, I, rfl, q1 (z.imp r1.nil_iff.mp id)⟩) (fun z zk => ?_)
 refine ⟨.ref s.heap.objs.size, _, I.laid (t' := s.toks) (o := .tup (List.replicate k.toNat xs).flatten) (fun b ob q => Heap.get?_push_of_some _ q) (Nat.le_refl _) ?_, rfl, q2 (fun w => z (r1.nil_iff.mpr w)) zk _ (I.hok.fresh (Nat.le_refl _))⟩
 exact ⟨by rw [Zlz, Nat.mul_comm]; exact hz, _, r1.rep k.toNat, Zi4.new _ _⟩
section
variable {X : Cx}
noncomputable def iiD (C : Int -> Int -> Prop) [∀ i j, Decidable (C i j)] (g : Int -> Int -> D) : F2 := fun x y H => match x, y with
 | .int i, .int j => if C i j then some (g i j, H) else none
 | _, _ => none
theorem Znj {f : Value -> Value -> Sem Value} {C : Int -> Int -> Prop} [∀ i j, Decidable (C i j)] {g : Int -> Int -> Int} (h : OpR X f (rI C fun i j => .int (g i j))) : OpF X f (iiD C fun i j => .int (g i j)) := by
 refine OpRi h fun x y H Q zz => ?_
 obtain ⟨ι, dx, dy, Hd, d, Hd', hr, r1, r2, e, q⟩ := zz
 cases dx <;> cases dy <;> simp only [iiD] at e <;> try cases e
 rename_i i j
 split at e
 ·rename_i hc
  cases e
  simp at r1 r2
  exact ⟨i, j, r1, r2, hc, q _ H ι Le.refl hr (by simp)⟩
 ·cases e
noncomputable def CT (_ _ : Int) : Prop := True
instance : ∀ i j, Decidable (CT i j) := fun _ _ => instDecidableTrue
theorem Zzl {f : Value -> Value -> Sem Value} {g : Int -> Int -> V} (h : OpR X f (rI0 g)) : OpR X f (rI CT g) := OpRi h fun x y H Q ⟨i, j, e1, e2, _, q⟩ => ⟨i, j, e1, e2, q⟩
theorem Zmv {f : Value -> Value -> Sem Value} {g : Int -> Int -> Bool} (h : OpR X f (rI0 fun i j => .bl (g i j))) : OpF X f (iiD CT fun i j => .bl (g i j)) := by
 refine OpRi h fun x y H Q zz => ?_
 obtain ⟨ι, dx, dy, Hd, d, Hd', hr, r1, r2, e, q⟩ := zz
 cases dx <;> cases dy <;> simp only [iiD] at e <;> try cases e
 rename_i i j
 simp at r1 r2
 exact ⟨i, j, r1, r2, q _ H ι Le.refl hr (by simp)⟩
instance (i j : Int) : Decidable (Zy9 i j) := by unfold Zy9; exact inferInstance
instance (i j : Int) : Decidable (Zud i j) := by unfold Zud; exact inferInstance
instance (i j : Int) : Decidable (Zys i j) := by unfold Zys; exact inferInstance
noncomputable def Zyp (_ j : Int) : Prop := 0 < j
instance (i j : Int) : Decidable (Zyp i j) := by unfold Zyp; exact inferInstance
noncomputable def Zl3 : F2 := iiD CT fun i j => .int (i - j)
noncomputable def Zjt : F2 := iiD Zy9 fun i j => .int (i / j)
noncomputable def Zbx : F2 := iiD Zyp fun i j => .int (i % j)
noncomputable def Zu5 : F2 := iiD Zys fun i j => .int (i ^ j.toNat)
noncomputable def ltD : F2 := iiD CT fun i j => .bl (decide (i < j))
noncomputable def leD : F2 := iiD CT fun i j => .bl (decide (i ≤ j))
noncomputable def gtD : F2 := iiD CT fun i j => .bl (decide (j < i))
noncomputable def geD : F2 := iiD CT fun i j => .bl (decide (j ≤ i))
theorem Zfd : OpF X (binaryOp .Sub) Zl3 := Znj (Zzl Ybb)
theorem Zew : OpF X (binaryOp .FloorDiv) Zjt := Znj Zwu
theorem Zc9 : OpF X (binaryOp .Mod) Zbx := Znj (C := Zyp) Zyj
theorem Zhs : OpF X (binaryOp .Pow) Zu5 := Znj Zyq
theorem Zk6 : OpF X (compareOp .Lt) ltD := Zmv op_lt
theorem Zmu : OpF X (compareOp .LtE) leD := Zmv op_le
theorem Zj3 : OpF X (compareOp .Gt) gtD := Zmv op_gt
theorem Zzu : OpF X (compareOp .GtE) geD := Zmv op_ge
noncomputable def Zl1 : D -> HD -> Option (D × HD) := fun x H => match x with
 | .int i => some (.int (-i), H)
 | _ => none
theorem Ze9 : UnF X (unaryOp .USub) Zl1 := by
 rintro pins s σ H x v Q I rx ⟨ι, dx, Hd, d, Hd', hr, r1, e, q⟩
 cases dx <;> simp only [Zl1] at e <;> try cases e
 simp at r1
 exact Yan pins s σ H x v Q I rx ⟨_, r1, q _ H ι Le.refl hr (by simp)⟩
theorem Zsz {prog : Program} {w : World} {A : Around} {E : Value -> Shared -> Prop} {s : Shared} {t b : Addr} {ws : List Value} {Q : Value -> Shared -> Prop} (ht : IsTup s.heap t #[]) (hb : IsTup s.heap b ws.toArray)
  (h1 : Q (.ref b) s) : wpAny (model prog w) A (binaryOp .Add (.ref t) (.ref b)) Q E s := by
 obtain ⟨⟨cls, dd, data, sl⟩, ho, hc, n, hd⟩ := id ht
 obtain ⟨⟨cls2, dd2, data2, sl2⟩, ho2, hc2, n2, hd2⟩ := id hb
 simp only at hc hd hc2 hd2
 subst hc hd hc2 hd2
 exact concat_meets ⟨_, ho, rfl⟩ ⟨_, ho2, rfl⟩ noFill_tuple_add seq_tuple_add PySem.F.slot_tuple_add PySem.F.entry_tuple_add (PySem.F.args_tuple_add_2 _ _)
   (tuple_addW0 t b #[] ws.toArray n n2 dd dd2 sl sl2 (by simp)) ⟨ho, ho2, h1⟩
noncomputable def Zbg : F2 := fun x y H => match x, y with
 | .int i, .int j => some (.int (i + j), H)
 | .str a, .str b => if a.length + b.length ≤ sizeLine then some (.str (a ++ b), H) else none
 | .tup a, .tup b => mkT (a ++ b) H
 | .ref n, .ref m => match H[n]?, H[m]? with
  | some (.lst a), some (.lst b) => mkL (a ++ b) H
  | _, _ => none
 | _, _ => none
theorem Zaw : OpF X (binaryOp .Add) Zbg := by
 rintro pins s σ H x y v u Q I rx ry ⟨ι, dx, dy, Hd, d, Hd', hr, r1, r2, e, q⟩
 cases dx <;> cases dy <;> simp only [Zbg] at e <;> try cases e
 ·simp at r1 r2
  exact Zzr pins s σ H x y v u Q I rx ry ⟨_, _, r1, r2, q _ H ι Le.refl hr (by simp)⟩
 ·simp at r1 r2
  split at e
  ·rename_i hl
   cases e
   exact Zns pins s σ H x y v u Q I rx ry ⟨_, _, r1, r2, hl, q _ H ι Le.refl hr (by simp)⟩
  ·cases e
 ·rename_i as bs
  obtain ⟨a, vs, rfl, h1, p1⟩ := Zbj.mp r1
  obtain ⟨b, ws, rfl, h2, p2⟩ := Zbj.mp r2
  cases p1 with
  | nil =>
   obtain ⟨hl, e⟩ := Zg1 e
   simp only [List.nil_append, Prod.mk.injEq] at e
   obtain ⟨rfl, rfl⟩ := e
   cases rx
   cases ry
   obtain ⟨its, q1, t1, _⟩ := I.tuple h1
   obtain ⟨its2, q2, t2, _⟩ := I.tuple h2
   cases q1
   exact Zsz t1 t2 ⟨.ref b, H, I, rfl, q _ H ι Le.refl hr r2⟩
  | cons p p' =>
   have P := Prd.append (.cons p p') p2
   obtain ⟨hl, e'⟩ := Zg1 e
   cases p2 with
   | nil =>
    simp only [List.append_nil, Prod.mk.injEq] at e'
    obtain ⟨rfl, rfl⟩ := e'
    refine Zo6 pins s σ H _ _ v u Q I rx ry ⟨a, b, _, _, rfl, rfl, h1, h2, by simp, ?_, fun _ => q _ H ι Le.refl hr r1, fun z => absurd rfl z⟩
    have := Prd.len P
    simp only [List.append_nil] at this hl
    simp only [List.length_nil]
    omega
   | cons p3 p4 =>
    obtain ⟨k1, k2⟩ := Zhz hr P e q
    refine Zo6 pins s σ H _ _ v u Q I rx ry ⟨a, b, _, _, rfl, rfl, h1, h2, by simp, ?_, fun z => absurd z (by simp), fun _ => k2⟩
    rw [← List.length_append]; exact k1
 ·rename_i n m
  obtain ⟨a, rfl, ha⟩ := Zau.mp r1
  obtain ⟨b, rfl, hb⟩ := Zau.mp r2
  split at e
  ·rename_i as bs e1 e2
   obtain ⟨vs, h1, p1⟩ := hr.obj n a _ ha e1
   obtain ⟨ws, h2, p2⟩ := hr.obj m b _ hb e2
   obtain ⟨k1, k2⟩ := Zee hr (Prd.append p1 p2) e q
   exact Zz4 pins s σ H _ _ v u Q I rx ry ⟨a, b, vs, ws, rfl, rfl, h1, h2, by rw [← List.length_append]; exact k1, k2⟩
  ·cases e
noncomputable def Zkk : F2 := fun x y H => match x, y with
 | .int i, .int j => if Zud i j then some (.int (i * j), H) else none
 | .ref n, .int k => match H[n]? with
  | some (.lst a) => if -(2 ^ 63) ≤ k ∧ k < 2 ^ 63 ∧ a.length * k.toNat ≤ sizeLine then mkL (List.replicate k.toNat a).flatten H else none
  | _ => none
 | .tup a, .int k => if -(2 ^ 63) ≤ k ∧ k < 2 ^ 63 ∧ a.length * k.toNat ≤ sizeLine then mkT (List.replicate k.toNat a).flatten H else none
 | _, _ => none
theorem Ze4 : OpF X (binaryOp .Mult) Zkk := by
 rintro pins s σ H x y v u Q I rx ry ⟨ι, dx, dy, Hd, d, Hd', hr, r1, r2, e, q⟩
 cases dx <;> cases dy <;> simp only [Zkk] at e <;> try cases e
 ·simp at r1 r2
  split at e
  ·rename_i hc
   cases e
   exact Yat pins s σ H x y v u Q I rx ry ⟨_, _, r1, r2, hc, q _ H ι Le.refl hr (by simp)⟩
  ·cases e
 ·rename_i as k
  obtain ⟨a, vs, rfl, h1, p1⟩ := Zbj.mp r1
  simp at r2
  split at e
  ·rename_i hc
   have hlen := Prd.len p1
   obtain ⟨k1, k2⟩ := Zhz hr (Prd.rep p1 k.toNat) e q
   refine Zx0 pins s σ H _ _ v u Q I rx ry ⟨a, k, vs, rfl, r2, h1, hc.1, hc.2.1, by rw [← hlen]; exact hc.2.2, fun z => ?_, fun _ _ => k2⟩
   obtain ⟨_, e'⟩ := Zg1 e
   have hf : (List.replicate k.toNat as).flatten = as := by
    rcases z with z | z
    ·have : as = [] := List.eq_nil_of_length_eq_zero (by rw [hlen, z]; rfl)
     subst this
     simp
    ·subst z
     simp
   rw [hf] at e'
   cases e'
   exact q _ H ι Le.refl hr r1
  ·cases e
 ·rename_i n k
  obtain ⟨a, rfl, ha⟩ := Zau.mp r1
  simp at r2
  split at e
  ·rename_i as e1
   obtain ⟨vs, h1, p1⟩ := hr.obj n a _ ha e1
   split at e
   ·rename_i hc
    obtain ⟨k1, k2⟩ := Zee hr (Prd.rep p1 _) e q
    exact Zzw pins s σ H _ _ v u Q I rx ry ⟨a, k, vs, rfl, r2, h1, hc.1, hc.2.1, by rw [← Prd.len p1]; exact hc.2.2, k2⟩
   ·cases e
  ·cases e
noncomputable def Zlh : D -> HD -> Option (List D)
 | .tup xs, _ => some xs
 | .fl xs, _ => some xs
 | .ref n, H => match H[n]? with
  | some (.lst xs) => some xs
  | _ => none
 | _, _ => none
theorem Zkt {K : PySem.W.Frag} {H : Hp} {ι : List Addr} {Hd : HD} {d : D} {xs : List D} {v : V} (hr : HRep K H ι Hd) (r : Rep K H ι d v) (e : Zlh d Hd = some xs) : ∃ p vs, v = .ref p ∧ (SqL K H p vs ∨ SqT K H p vs) ∧ Paired (Rep K H ι) xs vs := by
 cases d with
 | tup ys => cases e; obtain ⟨a, vs, rfl, h, p⟩ := Zbj.mp r; exact ⟨a, vs, rfl, .inr h, p⟩
 | fl ys => cases e; obtain ⟨a, vs, rfl, h, p⟩ := Zfo.mp r; exact ⟨a, vs, rfl, .inl h.sq, p⟩
 | ref n =>
  obtain ⟨a, rfl, ha⟩ := Zau.mp r
  simp only [Zlh] at e
  split at e
  ·rename_i ys e1
   cases e
   obtain ⟨vs, h1, p1⟩ := hr.obj n a _ ha e1
   exact ⟨a, vs, rfl, .inl (SqL.of h1), p1⟩
  ·cases e
 | _ => simp [Zlh] at e
theorem Zxz {α β : Type} {F : α -> β -> Prop} {xs : List α} {us : List β} {i : Int} {x : α} (r : Paired F xs us) (h : atI xs i = some x) : ∃ u, atI us i = some u ∧ F x u := by
 unfold atI at h ⊢
 rw [← Prd.len r]
 obtain ⟨j, h1, h2⟩ := Zo h
 obtain ⟨u, h3, h4⟩ := Prd.get r h2
 exact ⟨u, by rw [h1]; exact h3, h4⟩
noncomputable def ixD : F2 := fun x y H => match y with
 | .int i => (Zlh x H).bind fun xs => (atI xs i).map fun d => (d, H)
 | _ => none
theorem ixf : IxF X ixD := by
 rintro va sl pins s σ H x y v u Q I rx ry ⟨ι, dx, dy, Hd, d, Hd', hr, r1, r2, e, q⟩ hs
 cases dy <;> simp only [ixD] at e <;> try cases e
 rename_i i
 simp at r2
 obtain ⟨xs, e1, e⟩ := Zo e
 obtain ⟨d', e2, e⟩ := Zm e
 obtain ⟨rfl, rfl⟩ := Prod.mk.inj e
 obtain ⟨p, vs, rfl, h, P⟩ := Zkt hr r1 e1
 obtain ⟨z, hz, rz⟩ := Zxz P e2
 rcases h with h | h
 ·exact Zxb va sl pins s σ H _ _ v u Q I rx ry ⟨p, vs, i, z, rfl, r2, h, hz, q _ H ι Le.refl hr rz⟩ hs
 ·exact Zyw va sl pins s σ H _ _ v u Q I rx ry ⟨p, vs, i, z, rfl, r2, h, hz, q _ H ι Le.refl hr rz⟩ hs
noncomputable def Zib (xs : List D) (lo hi : Option Int) : List D := (xs.drop (HT.sIx xs.length 0 lo)).take (HT.sIx xs.length xs.length hi - HT.sIx xs.length 0 lo)
theorem Zjl {K : PySem.W.Frag} {H : Hp} {ι : List Addr} {xs : List D} {vs : List V} (P : Paired (Rep K H ι) xs vs) (lo hi : Option Int) : Paired (Rep K H ι) (Zib xs lo hi) (Zun vs lo hi) := by
 unfold Zib Zun
 rw [← Prd.len P]
 exact Prd.take _ (Prd.drop _ P)
noncomputable abbrev OF := SD -> HD -> Option (Option Int × HD)
noncomputable def rdO (K : PySem.W.Frag) (f : OF) : TO := fun σ H Q => ∃ ι σd Hd o Hd', SRep K H ι σ σd ∧ HRep K H ι Hd ∧ f σd Hd = some (o, Hd') ∧ ∀ H' ι', Le K H ι H' ι' -> HRep K H' ι' Hd' -> Q o H'
noncomputable def POf (X : Cx) (e : Option Expr) (f : OF) : Prop := PO X e (rdO X.K f)
noncomputable def Zbq : OF := fun _ H => some (none, H)
noncomputable def Zbh (f : EF) : OF := fun σ H => (f σ H).bind fun p => match p.1 with
 | .int i => some (some i, p.2)
 | _ => none
theorem Zbe : POf X none Zbq := by
 rintro pins s σ H Q I ⟨ι, σd, Hd, o, Hd', sr, hr, e, q⟩
 cases e
 exact Zvo pins s σ H Q I (q H ι Le.refl hr)
theorem Zcm {e : Expr} {f : EF} (h : PEf X e f) : POf X (some e) (Zbh f) := by
 rintro pins s σ H Q I ⟨ι, σd, Hd, o, Hd', sr, hr, e, q⟩
 obtain ⟨⟨d, H1⟩, e1, e⟩ := Zo e
 cases d <;> try cases e
 rename_i i
 exact Zv6 h pins s σ H Q I ⟨ι, σd, Hd, _, _, sr, hr, e1, fun v H' ι' l h r => ⟨i, by simpa using r, q H' ι' l h⟩⟩
noncomputable def slD (x : D) (lo hi : Option Int) (H : HD) : Option (D × HD) := match x with
 | .tup xs => some (.tup (Zib xs lo hi), H)
 | .fl xs => some (.ref H.length, H ++ [.lst (Zib xs lo hi)])
 | .ref n => match H[n]? with
  | some (.lst xs) => some (.ref H.length, H ++ [.lst (Zib xs lo hi)])
  | _ => none
 | _ => none
theorem Ze6 {prog : Program} {w : World} {A : Around} {E : Value -> Shared -> Prop} {s : Shared} {t sl : Addr} {items : Array Value} {vl vu : Value} {lo hi : Option Int} {Q : Value -> Shared -> Prop} (ht : IsTup s.heap t items) (hs : s.heap.IsSliceOf sl vl vu .none) (pl : IsPart vl lo) (pu : IsPart vu hi)
  (hw : HT.sIx items.size 0 lo = 0 ∧ HT.sIx items.size items.size hi = items.size) (h : Q (.ref t) s) : wpAny (model prog w) A (getItem (.ref t) (.ref sl)) Q E s := by
 obtain ⟨os, hos, hcs, hds⟩ := id hs
 have hTs : s.TypeIs (.ref sl) "slice" := ⟨os, hos, hcs⟩
 obtain ⟨ot, hot, hct, nt, hdt⟩ := id ht
 unfold getItem
 try with_reducible refine wpAny_holding ?_
 first | refine wpAny_bind (wpAny_pure ?_) | skip
 refine wpAny_bind (wpAny_sequenceKey ht.typeIs (by decide) ?_)
 refine wpAny_bind (wpAny_callSpecial?_slot (name := Str.ofString "__getitem__") ht.typeIs PyProof.Rows.slot_tuple_getitem
  (wpAny_call_entry PyProof.Rows.slot_tuple_getitem ht.typeIs entry_tuple_getitem ?_ (args_tuple_getitem _ _)))
 show wpAny _ _ (Builtin.Tuple.tupleItemsOf (.ref t) >>= _) _ _ s
 refine wpAny_bind (tupleItemsOf_ ht ?_)
 refine wpAny_bind (wpAny_typeOf hTs ?_)
 rw [if_pos (by decide)]
 refine wpAny_bind (HT.sliceApplied_gen hs pl pu ?_)
 show wpAny _ _ (if (((HT.sIx items.size 0 lo : Nat) : Int) == 0 && (1 : Int) == 1 && (HT.sIx items.size items.size hi - HT.sIx items.size 0 lo) == items.size) = true then _ else _) _ _ s
 rw [if_pos (by rw [hw.1, hw.2]; simp)]
 show wpAny _ _ (Builtin.Tuple.tupleIsExact (Value.ref t) >>= _) _ _ s
 unfold Builtin.Tuple.tupleIsExact
 refine wpAny_bind (wpAny_bind (wpAny_typeOf ht.typeIs (wpAny_pure ?_)))
 rw [if_pos (by decide)]
 exact wpAny_bind (wpAny_rule (wpAny_pure ⟨_, rfl, wpAny_pure h⟩))
theorem Zoh {xs : List D} {lo hi : Option Int} (h : HT.sIx xs.length 0 lo = 0 ∧ HT.sIx xs.length xs.length hi = xs.length) : Zib xs lo hi = xs := by
 unfold Zib
 rw [h.1, h.2]; simp
noncomputable def rdSl (K : PySem.W.Frag) : V -> Option Int -> Option Int -> Hp -> VK -> Prop := fun x lo hi H Q => ∃ ι dx Hd d Hd', HRep K H ι Hd ∧ Rep K H ι dx x ∧ slD dx lo hi Hd = some (d, Hd') ∧ QE K H ι d Hd' Q
theorem slf : SlR X (rdSl X.K) := by
 rintro pins s σ H x v vl vu lo hi sl Q I rx hs pl pu ⟨ι, dx, Hd, d, Hd', hr, r, e, q⟩
 have lists : ∀ {a : Addr} {xs : List D} {vs : List V}, x = .ref a -> SqL X.K H a vs -> Paired (Rep X.K H ι) xs vs -> (D.ref Hd.length, Hd ++ [DO.lst (Zib xs lo hi)]) = (d, Hd') →
   ∃ T id, typeLookup (.type T) "__getitem__" = pure (some (.builtin id)) ∧ s.TypeIs v T ∧ wpAny (model X.prog X.w) X.A (getItem v (.ref sl)) (EP X pins σ Q) X.xe s := fun {a xs vs} ex h P e => by
  obtain ⟨_, _, _, hz⟩ := I.list h
  have hz2 : (Zib xs lo hi).length ≤ sizeLine := by
   rw [Prd.len (Zjl P lo hi)]
   exact Nat.le_trans (Zd0 vs lo hi) hz
  obtain ⟨k1, k2⟩ := Zee hr (Zjl P lo hi) (show mkL (Zib xs lo hi) Hd = some (d, Hd') by unfold mkL; rw [if_pos hz2, e]) q
  exact Zxu pins s σ H x v vl vu lo hi sl Q I rx hs pl pu ⟨a, vs, ex, h, k2⟩
 cases dx with
 | tup xs =>
  obtain ⟨a, vs, rfl, h, P⟩ := Zbj.mp r
  simp only [slD, Option.some.injEq] at e
  obtain ⟨its, rv, ht, hz⟩ := I.tuple h
  have hlen : its.toArray.size = vs.length := by rw [List.size_toArray]; exact rv.length.symm
  by_cases hw : HT.sIx vs.length 0 lo = 0 ∧ HT.sIx vs.length vs.length hi = vs.length
  ·cases rx
   refine ⟨"tuple", _, PyProof.Rows.slot_tuple_getitem.lookup, ht.typeIs, Ze6 ht hs pl pu (by rw [hlen]; exact hw) ?_⟩
   rw [Zoh (by rw [Prd.len P]; exact hw)] at e
   obtain ⟨rfl, rfl⟩ := Prod.mk.inj e
   exact ⟨.ref a, H, I, rfl, q _ H ι Le.refl hr r⟩
  ·have hz2 : (Zib xs lo hi).length ≤ sizeLine := by
    rw [Prd.len (Zjl P lo hi)]
    exact Nat.le_trans (Zd0 vs lo hi) hz
   obtain ⟨k1, k2⟩ := Zhz hr (Zjl P lo hi) (show mkT (Zib xs lo hi) Hd = some (d, Hd') by unfold mkT; rw [if_pos hz2, e]) q
   exact Yaw pins s σ H _ v vl vu lo hi sl Q I rx hs pl pu ⟨a, vs, rfl, h, hw, k2⟩
 | fl xs =>
  obtain ⟨a, vs, rfl, h, P⟩ := Zfo.mp r
  simp only [slD, Option.some.injEq] at e
  exact lists rfl h.sq P e
 | ref n =>
  obtain ⟨a, rfl, ha⟩ := Zau.mp r
  simp only [slD] at e
  split at e
  ·rename_i xs e1
   obtain ⟨vs, h1, P⟩ := hr.obj n a _ ha e1
   exact lists rfl (SqL.of h1) P (Option.some.inj e)
  ·cases e
 | _ => simp [slD] at e
noncomputable def eSl (fe : EF) (fl fh : OF) : EF := fun σ H => (fe σ H).bind fun p => (fl σ p.2).bind fun l => (fh σ l.2).bind fun h => slD p.1 l.1 h.1 h.2
theorem Zat {e : Expr} {lo hi : Option Expr} {fe : EF} {fl fh : OF} {pos p2 : Pos} (he : PEf X e fe) (hl : POf X lo fl) (hu : POf X hi fh) : PEf X (.Subscript e (.Slice lo hi none p2) pos) (eSl fe fl fh) := by
 refine PEi (Zs9 slf he hl hu) fun σ H Q zz => ?_
 obtain ⟨ι, σd, Hd, d, Hd', s, hr, e, q⟩ := zz
 obtain ⟨⟨x, H1⟩, e1, e⟩ := Zo e
 obtain ⟨⟨y, H2⟩, e2, e⟩ := Zo e
 obtain ⟨⟨z, H3⟩, e3, e⟩ := Zo e
 exact ⟨ι, σd, Hd, x, H1, s, hr, e1, fun v1 H1' ι1 l1 h1 r1 => ⟨ι1, σd, H1, y, H2, s.mono l1, h1, e2, fun H2' ι2 l2 h2 => ⟨ι2, σd, H2, z, H3, s.mono (l1.trans l2), h2, e3, fun H3' ι3 l3 h3 =>
  ⟨ι3, x, H3, d, Hd', h3, r1.mono (l2.trans l3), e, fun v H' ι' l h r => q v H' ι' (((l1.trans l2).trans l3).trans l) h r⟩⟩⟩⟩
noncomputable def Zbv : FF := fun ds H => match ds with
 | [.str x] => if x.length ≤ sizeLine then some (.int x.length, H) else none
 | [d] => (Zlh d H).map fun xs => (.int xs.length, H)
 | _ => none
theorem Zls {K : PySem.W.Frag} {H : Hp} {ι : List Addr} {d : D} {vs : List V} (P : Paired (Rep K H ι) [d] vs) : ∃ v, vs = [v] ∧ Rep K H ι d v := by
 cases P with
 | cons r t => cases t; exact ⟨_, rfl, r⟩
theorem prd2 {K : PySem.W.Frag} {H : Hp} {ι : List Addr} {d d' : D} {vs : List V} (P : Paired (Rep K H ι) [d, d'] vs) : ∃ v v', vs = [v, v'] ∧ Rep K H ι d v ∧ Rep K H ι d' v' := by
 cases P with
 | cons r t => obtain ⟨v, rfl, r'⟩ := Zls t; exact ⟨_, _, rfl, r, r'⟩
theorem Zqk : Zig X (.builtin "len") Zbv := by
 rintro pins s σ H xs us Q I rv ⟨ι, ds, Hd, d, Hd', hr, P, e, q⟩
 unfold Zbv at e
 split at e
 ·obtain ⟨v, rfl, r⟩ := Zls P
  simp at r
  subst r
  split at e
  ·rename_i hl
   cases e
   exact Zj2 pins s σ H _ us Q I rv ⟨_, rfl, hl, q _ H ι Le.refl hr (by simp)⟩
  ·cases e
 ·obtain ⟨v, rfl, r⟩ := Zls P
  obtain ⟨ys, e1, e⟩ := Zm e
  obtain ⟨rfl, rfl⟩ := Prod.mk.inj e
  obtain ⟨p, vs, rfl, h, P2⟩ := Zkt hr r e1
  exact Zlb pins s σ H _ us Q I rv ⟨p, vs, rfl, h, q _ H ι Le.refl hr (by simp [Prd.len P2])⟩
 ·cases e
noncomputable def Zxr : FF := fun ds H => match ds with
 | [.int i] => some (.int (if i < 0 then -i else i), H)
 | _ => none
theorem Zqy : Zig X (.builtin "abs") Zxr := by
 rintro pins s σ H xs us Q I rv ⟨ι, ds, Hd, d, Hd', hr, P, e, q⟩
 unfold Zxr at e
 split at e
 ·obtain ⟨v, rfl, r⟩ := Zls P
  simp at r
  subst r
  cases e
  exact Zs7 pins s σ H _ us Q I rv ⟨_, rfl, q _ H ι Le.refl hr (by simp)⟩
 ·cases e
noncomputable def Zzj : FF := fun ds H => match ds with
 | [.int i, .int j] => some (.int (if j > i then j else i), H)
 | _ => none
theorem Zkb (hc : X.calm = true) : Zig X (.builtin "max") Zzj := by
 rintro pins s σ H xs us Q I rv ⟨ι, ds, Hd, d, Hd', hr, P, e, q⟩
 unfold Zzj at e
 split at e
 ·obtain ⟨v, v', rfl, r, r'⟩ := prd2 P
  simp at r r'
  subst r r'
  cases e
  exact Zql hc pins s σ H _ us Q I rv ⟨_, _, rfl, q _ H ι Le.refl hr (by simp)⟩
 ·cases e
noncomputable def intD : FF := fun ds H => match ds with
 | [.int i] => some (.int i, H)
 | [.bl b] => some (.int (if b then 1 else 0), H)
 | _ => none
theorem Zpj : Zig X (.type "int") intD := by
 rintro pins s σ H xs us Q I rv ⟨ι, ds, Hd, d, Hd', hr, P, e, q⟩
 unfold intD at e
 split at e
 ·obtain ⟨v, rfl, r⟩ := Zls P
  simp at r
  subst r
  cases e
  exact Zkg pins s σ H _ us Q I rv (.inl ⟨_, rfl, q _ H ι Le.refl hr (by simp)⟩)
 ·obtain ⟨v, rfl, r⟩ := Zls P
  simp at r
  subst r
  cases e
  exact Zkg pins s σ H _ us Q I rv (.inr ⟨_, rfl, q _ H ι Le.refl hr (by simp)⟩)
 ·cases e
noncomputable def Zhn : FF := fun ds H => match ds with
 | [d] => (Zlh d H).map fun xs => (.ref H.length, H ++ [.lst xs])
 | _ => none
theorem Zms {pins : List (Addr × Obj)} {s : Shared} {σ : L2.St} {H : Hp} {p : Addr} {vs : List V} (I : Inv X pins σ H s) (h : SqL X.K H p vs ∨ SqT X.K H p vs) : vs.length ≤ sizeLine := by
 rcases h with h | h
 ·obtain ⟨_, _, _, z⟩ := I.list h; exact z
 ·obtain ⟨_, _, _, z⟩ := I.tuple h; exact z
theorem Zn2 : Zig X (.type "list") Zhn := by
 rintro pins s σ H xs us Q I rv ⟨ι, ds, Hd, d, Hd', hr, P, e, q⟩
 unfold Zhn at e
 split at e
 ·obtain ⟨v, rfl, r⟩ := Zls P
  obtain ⟨ys, e1, e⟩ := Zm e
  obtain ⟨p, vs, rfl, h, P2⟩ := Zkt hr r e1
  obtain ⟨k1, k2⟩ := Zee hr P2 (show mkL ys Hd = some (d, Hd') by unfold mkL; rw [if_pos (by rw [Prd.len P2]; exact Zms I h), e]) q
  exact Zkn pins s σ H _ us Q I rv ⟨p, vs, rfl, h, k2⟩
 ·cases e
noncomputable def Zcn : FF := fun ds H => match ds with
 | [d] => (Zlh d H).map fun xs => (.tup xs, H)
 | _ => none
theorem Zme : Zig X (.type "tuple") Zcn := by
 rintro pins s σ H xs us Q I rv ⟨ι, ds, Hd, d, Hd', hr, P, e, q⟩
 unfold Zcn at e
 split at e
 ·rename_i d0
  obtain ⟨v, rfl, r⟩ := Zls P
  obtain ⟨ys, e1, e⟩ := Zm e
  obtain ⟨p, vs, rfl, h, P2⟩ := Zkt hr r e1
  obtain ⟨k1, k2⟩ := Zhz hr P2 (show mkT ys Hd = some (d, Hd') by unfold mkT; rw [if_pos (by rw [Prd.len P2]; exact Zms I h), e]) q
  refine Zjm pins s σ H _ us Q I rv ⟨p, vs, rfl, ?_⟩
  rcases h with h | h
  ·exact .inl ⟨h, k2⟩
  ·obtain ⟨rfl, rfl⟩ := Prod.mk.inj e
   exact .inr ⟨h, q _ H ι Le.refl hr (Zbj.mpr ⟨p, vs, rfl, h, P2⟩)⟩
 ·cases e
noncomputable def Zbk (x : D) (ds : List D) (H : HD) : Option (D × HD) := match x, ds with
 | .ref n, [d] => match H[n]? with
  | some (.lst xs) => if xs.length < sizeLine then some (.non, H.set n (.lst (xs ++ [d]))) else none
  | _ => none
 | _, _ => none
theorem Zet : MtF X "list.append" Zbk := by
 rintro pins s σ H x xs v us Q I rx rv ⟨ι, dx, ds, Hd, d, Hd', hr, r1, P, e, q⟩
 unfold Zbk at e
 split at e
 ·rename_i n d1
  obtain ⟨a, rfl, ha⟩ := Zau.mp r1
  obtain ⟨z, rfl, rz⟩ := Zls P
  split at e
  ·rename_i ys e1
   split at e
   ·rename_i hl
    cases e
    obtain ⟨vs, h1, P1⟩ := hr.obj n a _ ha e1
    refine Zlg pins s σ H _ _ v us Q I rx rv ⟨a, vs, z, rfl, rfl, h1, by rw [← Prd.len P1]; exact hl, ?_⟩
    have L : Le X.K H ι (upd H a (.lst (vs ++ [z]))) ι := Le.upd (List.mem_of_getElem? ha) h1 trivial _
    exact q _ _ ι L (hr.upd ha h1 trivial ⟨_, upd_same, Prd.append (Prd.mono L P1) (.cons (rz.mono L) .nil)⟩) (by simp)
   ·cases e
  ·cases e
 ·cases e
end
mutual
noncomputable def toP (H : HD) : Nat -> D -> Option PyData
 | _, .non => some .none
 | _, .bl b => some (.bool b)
 | _, .int i => some (.int i)
 | _, .str x => some (.str x)
 | _, .ty _ => none
 | n, .tup xs => (Zik H n xs).map .tuple
 | n, .fl xs => (Zik H n xs).map .list
 | 0, .ref _ => none
 | n + 1, .ref k => match H[k]? with
  | some (.lst xs) => (Zik H n xs).map .list
  | _ => none
termination_by n d => (n, sizeOf d)
noncomputable def Zik (H : HD) : Nat -> List D -> Option (List PyData)
 | _, [] => some []
 | n, d :: ds => (toP H n d).bind fun x => (Zik H n ds).map fun r => x :: r
termination_by n ds => (n, sizeOf ds)
end
section
variable {X : Cx} {pins : List (Addr × Obj)} {σ : L2.St} {H : Hp} {s : Shared} {ι : List Addr} {Hd : HD}
mutual
theorem Zb8 (I : Inv X pins σ H s) (hr : HRep X.K H ι Hd) : ∀ (n : Nat) (d : D) {x : PyData} {v : V} {u : Value}, toP Hd n d = some x -> Rep X.K H ι d v -> Zb2 v u -> ∃ as, Reads s.heap u x as
 | n, .non, x, v, u, e, r, q => by
  rw [toP] at e; cases e; simp at r; subst r; cases q; exact ⟨_, .none⟩
 | n, .bl b, x, v, u, e, r, q => by
  rw [toP] at e; cases e; simp at r; subst r; cases q; exact ⟨_, .bool b⟩
 | n, .int i, x, v, u, e, r, q => by
  rw [toP] at e; cases e; simp at r; subst r; obtain ⟨t, rfl⟩ := q; exact ⟨_, .int i t⟩
 | n, .str z, x, v, u, e, r, q => by
  rw [toP] at e; cases e; simp at r; subst r; obtain ⟨t, rfl⟩ := q; exact ⟨_, .str z t⟩
 | n, .ty _, x, v, u, e, r, q => by rw [toP] at e; cases e
 | n, .tup xs, x, v, u, e, r, q => by
  rw [toP] at e
  obtain ⟨ps, e1, rfl⟩ := Zm e
  obtain ⟨a, vs, rfl, h, P⟩ := Zbj.mp r
  cases q
  obtain ⟨its, rv, ⟨o, ho, hc, m, hd⟩, hz⟩ := I.tuple h
  obtain ⟨as, ra⟩ := Zd2 I hr n xs e1 P rv
  exact ⟨_, .tuple ho hc hd (by simpa using ra)⟩
 | n, .fl xs, x, v, u, e, r, q => by
  rw [toP] at e
  obtain ⟨ps, e1, rfl⟩ := Zm e
  obtain ⟨a, vs, rfl, h, P⟩ := Zfo.mp r
  cases q
  obtain ⟨its, rv, pl, hz⟩ := I.list h.sq
  obtain ⟨o, ho, hc, m, hd⟩ := pl.isList
  obtain ⟨as, ra⟩ := Zd2 I hr n xs e1 P rv
  exact ⟨_, .list ho hc hd (by simpa using ra)⟩
 | 0, .ref k, x, v, u, e, r, q => by rw [toP] at e; cases e
 | n + 1, .ref k, x, v, u, e, r, q => by
  rw [toP] at e
  split at e
  ·rename_i xs eo
   obtain ⟨ps, e1, rfl⟩ := Zm e
   obtain ⟨a, rfl, ha⟩ := Zau.mp r
   cases q
   obtain ⟨vs, h1, P⟩ := hr.obj k a _ ha eo
   obtain ⟨its, rv, pl, hz⟩ := I.list (SqL.of h1)
   obtain ⟨o, ho, hc, m, hd⟩ := pl.isList
   obtain ⟨as, ra⟩ := Zd2 I hr n xs e1 P rv
   exact ⟨_, .list ho hc hd (by simpa using ra)⟩
  ·cases e
termination_by n d => (n, sizeOf d)
theorem Zd2 (I : Inv X pins σ H s) (hr : HRep X.K H ι Hd) : ∀ (n : Nat) (ds : List D) {xs : List PyData} {vs : List V} {us : List Value}, Zik Hd n ds = some xs -> Paired (Rep X.K H ι) ds vs -> Zbt vs us -> ∃ as, ReadsAll s.heap us xs as
 | n, [], xs, vs, us, e, P, q => by
  rw [Zik] at e; cases e; cases P; cases q; exact ⟨_, .nil⟩
 | n, d :: ds, xs, vs, us, e, P, q => by
  rw [Zik] at e
  obtain ⟨x, e1, e⟩ := Zo e
  obtain ⟨r, e2, rfl⟩ := Zm e
  cases P with
  | cons p P =>
   cases q with
   | cons q Q =>
    obtain ⟨as, ra⟩ := Zb8 I hr n d e1 p q
    obtain ⟨bs, rb⟩ := Zd2 I hr n ds e2 P Q
    exact ⟨_, .cons ra rb⟩
termination_by n ds => (n, sizeOf ds)
end
noncomputable def okP (x : PyData) : Bool := x.canLay0 && decide (x.depth ≤ 30)
noncomputable def dat (d : D) (H : HD) : Option PyData := (toP H 30 d).bind fun x => if okP x = true then some x else none
theorem Zc2 {d : D} {x : PyData} (e : dat d Hd = some x) : toP Hd 30 d = some x ∧ x.canLay0 = true ∧ x.depth ≤ 30 := by
 obtain ⟨y, e1, e⟩ := Zo e
 split at e
 ·rename_i h
  cases e
  rw [okP, Bool.and_eq_true, decide_eq_true_eq] at h
  exact ⟨e1, h⟩
 ·cases e
noncomputable def Zr9 : D -> D -> Option (Str × Str)
 | .str a, .str b => some (a, b)
 | _, _ => none
theorem Zj5 {x y : D} {a b : Str} (h : Zr9 x y = some (a, b)) : x = .str a ∧ y = .str b := by
 unfold Zr9 at h
 split at h
 ·cases h; exact ⟨rfl, rfl⟩
 ·cases h
noncomputable def eqD : F2 := fun x y H => match Zr9 x y with
 | some (a, b) => some (.bl (a == b), H)
 | none => (dat x H).bind fun p => (dat y H).map fun q => (.bl (PyData.eqv p q), H)
noncomputable def neD : F2 := fun x y H => match Zr9 x y with
 | some (a, b) => some (.bl (a != b), H)
 | none => (dat x H).bind fun p => (dat y H).map fun q => (.bl (!PyData.eqv p q), H)
theorem Ze0 (hu : X.A.units + 64 < cLine) : OpF X (compareOp .Eq) eqD := by
 rintro pins s σ H x y v u Q I rx ry ⟨ι, dx, dy, Hd, d, Hd', hr, r1, r2, e, q⟩
 unfold eqD at e
 split at e
 ·rename_i a b es
  obtain ⟨rfl, rfl⟩ := Zj5 es
  obtain ⟨rfl, rfl⟩ := Prod.mk.inj (Option.some.inj e)
  simp at r1 r2
  subst r1 r2
  obtain ⟨t1, rfl⟩ := rx
  obtain ⟨t2, rfl⟩ := ry
  exact PyProof.Rows.eq_str ⟨.bl _, H, I, rfl, q _ H ι Le.refl hr (by simp)⟩
 ·obtain ⟨p, e1, e⟩ := Zo e
  obtain ⟨p2, e2, e⟩ := Zm e
  obtain ⟨rfl, rfl⟩ := Prod.mk.inj e
  obtain ⟨t1, c1, d1⟩ := Zc2 e1
  obtain ⟨t2, c2, d2⟩ := Zc2 e2
  obtain ⟨as, ra⟩ := Zb8 I hr _ _ t1 r1 rx
  obtain ⟨bs, rb⟩ := Zb8 I hr _ _ t2 r2 ry
  exact SeqAt.compareEq_reads ra rb c1 c2 (by omega) ⟨.bl _, H, I, rfl, q _ H ι Le.refl hr (by simp)⟩
theorem Zcs (hu : X.A.units + 64 < cLine) : OpF X (compareOp .NotEq) neD := by
 rintro pins s σ H x y v u Q I rx ry ⟨ι, dx, dy, Hd, d, Hd', hr, r1, r2, e, q⟩
 unfold neD at e
 split at e
 ·rename_i a b es
  obtain ⟨rfl, rfl⟩ := Zj5 es
  obtain ⟨rfl, rfl⟩ := Prod.mk.inj (Option.some.inj e)
  simp at r1 r2
  subst r1 r2
  obtain ⟨t1, rfl⟩ := rx
  obtain ⟨t2, rfl⟩ := ry
  exact PyProof.Rows.ne_str ⟨.bl _, H, I, rfl, q _ H ι Le.refl hr (by simp)⟩
 ·obtain ⟨p, e1, e⟩ := Zo e
  obtain ⟨p2, e2, e⟩ := Zm e
  obtain ⟨rfl, rfl⟩ := Prod.mk.inj e
  obtain ⟨t1, c1, d1⟩ := Zc2 e1
  obtain ⟨t2, c2, d2⟩ := Zc2 e2
  obtain ⟨as, ra⟩ := Zb8 I hr _ _ t1 r1 rx
  obtain ⟨bs, rb⟩ := Zb8 I hr _ _ t2 r2 ry
  exact SeqAt.compareNe_reads ra rb c1 c2 (by omega) ⟨.bl _, H, I, rfl, q _ H ι Le.refl hr (by simp)⟩
noncomputable def Znc : PyData -> Option (List PyData)
 | .list xs => some xs
 | .tuple xs => some xs
 | _ => none
noncomputable def inD : F2 := fun x y H => (dat x H).bind fun p => (dat y H).bind fun q => (Znc q).map fun xs => (.bl (xs.any fun z => PyData.eqv z p), H)
noncomputable def niD : F2 := fun x y H => (dat x H).bind fun p => (dat y H).bind fun q => (Znc q).map fun xs => (.bl (!xs.any fun z => PyData.eqv z p), H)
theorem Zuq (hu : X.A.units + 64 < cLine) : OpF X (compareOp .In) inD := by
 rintro pins s σ H x y v u Q I rx ry ⟨ι, dx, dy, Hd, d, Hd', hr, r1, r2, e, q⟩
 obtain ⟨p, e1, e⟩ := Zo e
 obtain ⟨p2, e2, e⟩ := Zo e
 obtain ⟨xs, e3, e⟩ := Zm e
 obtain ⟨rfl, rfl⟩ := Prod.mk.inj e
 obtain ⟨t1, c1, d1⟩ := Zc2 e1
 obtain ⟨t2, c2, d2⟩ := Zc2 e2
 obtain ⟨as, ra⟩ := Zb8 I hr _ _ t1 r1 rx
 obtain ⟨bs, rb⟩ := Zb8 I hr _ _ t2 r2 ry
 have fin : EP X pins σ Q (.bool (xs.any fun z => PyData.eqv z p)) s := ⟨.bl _, H, I, rfl, q _ H ι Le.refl hr (by simp)⟩
 cases p2 with
 | list ys =>
  cases e3
  simp only [PyData.canLay0] at c2
  simp only [PyData.depth] at d2
  exact SeqAt.in_list_reads rb ra c2 c1 (by omega) fin
 | tuple ys =>
  cases e3
  simp only [PyData.canLay0] at c2
  simp only [PyData.depth] at d2
  exact SeqAt.in_tuple_reads rb ra c2 c1 (by omega) fin
 | _ => simp [Znc] at e3
theorem Zir (hu : X.A.units + 64 < cLine) : OpF X (compareOp .NotIn) niD := by
 rintro pins s σ H x y v u Q I rx ry ⟨ι, dx, dy, Hd, d, Hd', hr, r1, r2, e, q⟩
 obtain ⟨p, e1, e⟩ := Zo e
 obtain ⟨p2, e2, e⟩ := Zo e
 obtain ⟨xs, e3, e⟩ := Zm e
 obtain ⟨rfl, rfl⟩ := Prod.mk.inj e
 obtain ⟨t1, c1, d1⟩ := Zc2 e1
 obtain ⟨t2, c2, d2⟩ := Zc2 e2
 obtain ⟨as, ra⟩ := Zb8 I hr _ _ t1 r1 rx
 obtain ⟨bs, rb⟩ := Zb8 I hr _ _ t2 r2 ry
 have fin : EP X pins σ Q (.bool (!xs.any fun z => PyData.eqv z p)) s := ⟨.bl _, H, I, rfl, q _ H ι Le.refl hr (by simp)⟩
 cases p2 with
 | list ys =>
  cases e3
  simp only [PyData.canLay0] at c2
  simp only [PyData.depth] at d2
  exact SeqAt.notIn_list_reads rb ra c2 c1 (by omega) fin
 | tuple ys =>
  cases e3
  simp only [PyData.canLay0] at c2
  simp only [PyData.depth] at d2
  exact SeqAt.notIn_tuple_reads rb ra c2 c1 (by omega) fin
 | _ => simp [Znc] at e3
noncomputable def isB (x y : D) : Option Bool := match y, x with
 | .non, .non => some true
 | .non, _ => some false
 | .bl b, .bl c => some (c == b)
 | .bl _, _ => some false
 | _, _ => none
noncomputable def isD : F2 := fun x y H => (isB x y).map fun b => (.bl b, H)
noncomputable def Zz3 : F2 := fun x y H => (isB x y).map fun b => (.bl (!b), H)
theorem Zmf {M : Model} {A : Around} {E : Value -> Shared -> Prop} {s : Shared} {Q : Value -> Shared -> Prop} {v : Value} {b : Bool} (hv : ∀ i, v ≠ .builtin i) (h : Q (.bool (v == .bool b)) s) : wpAny M A (compareOp .Is v (.bool b)) Q E s := by
 cases v <;> first | exact wpAny_pure h | exact absurd rfl (hv _)
theorem Zie {M : Model} {A : Around} {E : Value -> Shared -> Prop} {s : Shared} {Q : Value -> Shared -> Prop} {v : Value} {b : Bool} (hv : ∀ i, v ≠ .builtin i) (h : Q (.bool (!(v == .bool b))) s) : wpAny M A (compareOp .IsNot v (.bool b)) Q E s := by
 cases v <;> first | exact wpAny_pure h | exact absurd rfl (hv _)
theorem Zqw {x : V} {v : Value} (r : Zb2 x v) : ∀ i, v ≠ .builtin i := by
 intro i
 cases x with
 | non => cases r; intro z; cases z
 | bl _ => cases r; intro z; cases z
 | int _ => obtain ⟨t, rfl⟩ := r; intro z; cases z
 | str _ => obtain ⟨t, rfl⟩ := r; intro z; cases z
 | byt _ => obtain ⟨t, rfl⟩ := r; intro z; cases z
 | flt _ => obtain ⟨t, rfl⟩ := r; intro z; cases z
 | ref _ => cases r; intro z; cases z
 | ty _ => cases r; intro z; cases z
theorem Zu8 {dx dy : D} {x y : V} {v u : Value} {b : Bool} (r1 : Rep X.K H ι dx x) (r2 : Rep X.K H ι dy y) (rx : Zb2 x v) (ry : Zb2 y u) (e : isB dx dy = some b) :
  (u = .none ∧ b = (v == .none)) ∨ ∃ c, u = .bool c ∧ b = (v == .bool c) := by
 cases dy with
 | non =>
  simp at r2; subst r2; cases ry
  refine .inl ⟨rfl, ?_⟩
  cases dx with
  | non => simp at r1; subst r1; cases rx; cases e; rfl
  | bl _ => simp at r1; subst r1; cases rx; cases e; rfl
  | int _ => simp at r1; subst r1; obtain ⟨t, rfl⟩ := rx; cases e; rfl
  | str _ => simp at r1; subst r1; obtain ⟨t, rfl⟩ := rx; cases e; rfl
  | ty _ => rw [Rep] at r1; rcases r1 with ⟨_, rfl⟩ | ⟨_, a, rfl, _⟩ <;> (cases rx; cases e; rfl)
  | tup _ => obtain ⟨a, _, rfl, _⟩ := Zbj.mp r1; cases rx; cases e; rfl
  | fl _ => obtain ⟨a, _, rfl, _⟩ := Zfo.mp r1; cases rx; cases e; rfl
  | ref _ => obtain ⟨a, rfl, _⟩ := Zau.mp r1; cases rx; cases e; rfl
 | bl c =>
  simp at r2; subst r2; cases ry
  refine .inr ⟨c, rfl, ?_⟩
  cases dx with
  | non => simp at r1; subst r1; cases rx; cases e; rfl
  | bl z => simp at r1; subst r1; cases rx; cases e; cases z <;> cases c <;> rfl
  | int _ => simp at r1; subst r1; obtain ⟨t, rfl⟩ := rx; cases e; rfl
  | str _ => simp at r1; subst r1; obtain ⟨t, rfl⟩ := rx; cases e; rfl
  | ty _ => rw [Rep] at r1; rcases r1 with ⟨_, rfl⟩ | ⟨_, a, rfl, _⟩ <;> (cases rx; cases e; rfl)
  | tup _ => obtain ⟨a, _, rfl, _⟩ := Zbj.mp r1; cases rx; cases e; rfl
  | fl _ => obtain ⟨a, _, rfl, _⟩ := Zfo.mp r1; cases rx; cases e; rfl
  | ref _ => obtain ⟨a, rfl, _⟩ := Zau.mp r1; cases rx; cases e; rfl
 | _ => simp [isB] at e
theorem Zu2 : OpF X (compareOp .Is) isD := by
 rintro pins s σ H x y v u Q I rx ry ⟨ι, dx, dy, Hd, d, Hd', hr, r1, r2, e, q⟩
 obtain ⟨b, e1, e⟩ := Zm e
 obtain ⟨rfl, rfl⟩ := Prod.mk.inj e
 have fin : EP X pins σ Q (.bool b) s := ⟨.bl _, H, I, rfl, q _ H ι Le.refl hr (by simp)⟩
 rcases Zu8 r1 r2 rx ry e1 with ⟨rfl, rfl⟩ | ⟨c, rfl, rfl⟩
 ·exact is_none_gen fin
 ·exact Zmf (Zqw rx) fin
theorem Zpx : OpF X (compareOp .IsNot) Zz3 := by
 rintro pins s σ H x y v u Q I rx ry ⟨ι, dx, dy, Hd, d, Hd', hr, r1, r2, e, q⟩
 obtain ⟨b, e1, e⟩ := Zm e
 obtain ⟨rfl, rfl⟩ := Prod.mk.inj e
 have fin : EP X pins σ Q (.bool (!b)) s := ⟨.bl _, H, I, rfl, q _ H ι Le.refl hr (by simp)⟩
 rcases Zu8 r1 r2 rx ry e1 with ⟨rfl, rfl⟩ | ⟨c, rfl, rfl⟩
 ·exact isnot_none_gen fin
 ·exact Zie (Zqw rx) fin
noncomputable def tyD : D -> HD -> Option String
 | .non, _ => some "NoneType"
 | .bl _, _ => some "bool"
 | .int _, _ => some "int"
 | .str _, _ => some "str"
 | .tup _, _ => some "tuple"
 | .fl _, _ => some "list"
 | .ref n, H => match H[n]? with
  | some (.lst _) => some "list"
  | _ => none
 | _, _ => none
noncomputable def Zog (c : String) : Bool := c == "bool" || c == "int" || c == "str" || c == "tuple" || c == "list"
noncomputable def Zih : FF := fun ds H => match ds with
 | [x, .ty c] => if Zog c = true then (tyD x H).map fun t => (.bl (t == c || (t == "bool" && c == "int")), H) else none
 | _ => none
noncomputable def tys : List String := ["NoneType", "bool", "int", "str", "tuple", "list"]
theorem Zvj {d : D} {t : String} (e : tyD d Hd = some t) : t ∈ tys := by
 cases d with
 | ref n =>
  simp only [tyD] at e
  split at e
  ·cases e; decide
  ·cases e
 | ty n => simp [tyD] at e
 | _ => simp only [tyD] at e; cases e; decide
theorem Zzp (K : PySem.W.Frag) {t c : String} (ht : t ∈ tys) (hc : Zog c = true) : PySem.W.kitOne K (.type t) (.type c) = some (t == c || (t == "bool" && c == "int")) := by
 have hc' : c = "bool" ∨ c = "int" ∨ c = "str" ∨ c = "tuple" ∨ c = "list" := by
  simpa [Zog, or_assoc] using hc
 simp only [tys, List.mem_cons, List.not_mem_nil, or_false] at ht
 rcases ht with rfl | rfl | rfl | rfl | rfl | rfl <;> rcases hc' with rfl | rfl | rfl | rfl | rfl <;> first | rfl | (with_unfolding_all rfl) | kernel_rfl
theorem Zp3 : Zig X (.builtin "isinstance") Zih := by
 rintro pins s σ H xs us Q I rv ⟨ι, ds, Hd, d, Hd', hr, P, e, q⟩
 unfold Zih at e
 split at e
 ·rename_i x c
  split at e
  ·rename_i hc
   obtain ⟨t, e1, e⟩ := Zm e
   obtain ⟨rfl, rfl⟩ := Prod.mk.inj e
   obtain ⟨v, v', rfl, r, r'⟩ := prd2 P
   obtain ⟨u, u', rfl, ru, ru'⟩ := Zn7 rv
   have r' := (Zu0 (show Zut c = true from hc)).mp r'
   subst r'
   cases ru'
   have k := Zzp X.K (Zvj e1) hc
   have fin : ∀ tk, EP X pins σ Q (.bool (t == c || (t == "bool" && c == "int"))) { s with toks := tk } := fun tk => ⟨.bl _, H, I.tok tk, rfl, q _ H ι Le.refl hr (by simp)⟩
   cases x with
   | non => simp at r; subst r; cases ru; cases e1; exact PySem.W.kia_one PySem.W.kitx_none I.kIn True.intro k (fun z => nomatch z) fin
   | bl y => simp at r; subst r; cases ru; cases e1; exact PySem.W.kia_one PySem.W.kitx_bool I.kIn True.intro k (fun z => nomatch z) fin
   | int y => simp at r; subst r; obtain ⟨t, rfl⟩ := ru; cases e1; exact PySem.W.kia_one PySem.W.kitx_int I.kIn True.intro k (fun z => nomatch z) fin
   | str y => simp at r; subst r; obtain ⟨t, rfl⟩ := ru; cases e1; exact PySem.W.kia_one PySem.W.kitx_str I.kIn True.intro k (fun z => nomatch z) fin
   | ty _ => simp [tyD] at e1
   | tup ys =>
    obtain ⟨a, vs, rfl, h, _⟩ := Zbj.mp r
    cases ru; cases e1
    obtain ⟨its, _, ⟨o, ho, hcl, _⟩, _⟩ := I.tuple h
    exact PySem.W.kia_one PySem.W.kitx_tuple I.kIn ⟨o, ho, hcl⟩ k (fun z => nomatch z) fin
   | fl ys =>
    obtain ⟨a, vs, rfl, h, _⟩ := Zfo.mp r
    cases ru; cases e1
    obtain ⟨its, _, pl, _⟩ := I.list h.sq
    obtain ⟨o, ho, hcl, _⟩ := pl.isList
    exact PySem.W.kia_one PySem.W.kitx_list I.kIn ⟨o, ho, hcl⟩ k (fun z => nomatch z) fin
   | ref n =>
    obtain ⟨a, rfl, ha⟩ := Zau.mp r
    cases ru
    simp only [tyD] at e1
    split at e1
    ·rename_i ys eo
     cases e1
     obtain ⟨vs, h1, _⟩ := hr.obj n a _ ha eo
     obtain ⟨its, _, pl, _⟩ := I.list (SqL.of h1)
     obtain ⟨o, ho, hcl, _⟩ := pl.isList
     exact PySem.W.kia_one PySem.W.kitx_list I.kIn ⟨o, ho, hcl⟩ k (fun z => nomatch z) fin
    ·cases e1
  ·cases e
 ·cases e
noncomputable def Zf7 : List D -> Option (List Int)
 | [] => some []
 | .int i :: r => (Zf7 r).map fun s => i :: s
 | _ => none
theorem Zkj : ∀ {xs ys : List Int}, xs.Perm ys -> xs.Pairwise (· ≤ ·) -> ys.Pairwise (· ≤ ·) -> xs = ys
 | [], ys, p, _, _ => by simpa using p.symm
 | x :: xs, [], p, _, _ => by simpa using p
 | x :: xs, y :: ys, p, h1, h2 => by
  rw [List.pairwise_cons] at h1 h2
  have a1 : y ∈ x :: xs := p.symm.subset (by simp)
  have a2 : x ∈ y :: ys := p.subset (by simp)
  have e : x = y := by
   rcases List.mem_cons.mp a1 with z | z
   ·exact z.symm
   ·rcases List.mem_cons.mp a2 with w | w
    ·exact w
    ·have := h1.1 y z
     have := h2.1 x w
     omega
  subst e
  rw [Zkj (List.Perm.cons_inv p) h1.2 h2.2]
theorem Zle {K : PySem.W.Frag} : ∀ {xs : List D} {ns : List Int} {vs : List V}, Zf7 xs = some ns -> Paired (Rep K H ι) xs vs -> vs = ns.map V.int
 | [], ns, vs, e, P => by cases P; cases e; rfl
 | .int i :: r, ns, vs, e, P => by
  simp only [Zf7] at e
  obtain ⟨s, e1, rfl⟩ := Zm e
  cases P with
  | cons p P =>
   simp at p
   subst p
   rw [Zle e1 P]
   rfl
 | .non :: _, _, _, e, _ => by simp [Zf7] at e
 | .bl _ :: _, _, _, e, _ => by simp [Zf7] at e
 | .str _ :: _, _, _, e, _ => by simp [Zf7] at e
 | .ty _ :: _, _, _, e, _ => by simp [Zf7] at e
 | .tup _ :: _, _, _, e, _ => by simp [Zf7] at e
 | .fl _ :: _, _, _, e, _ => by simp [Zf7] at e
 | .ref _ :: _, _, _, e, _ => by simp [Zf7] at e
theorem Zj9 : ∀ {ns : List Int} {us : List Value}, IntsAre us ns -> Zbt (ns.map V.int) us := by
 intro ns us h
 induction h with
 | nil => exact .nil
 | cons n t _ ih => exact .cons ⟨t, rfl⟩ ih
theorem Zj8 {K : PySem.W.Frag} (ns : List Int) : Paired (Rep K H ι) (ns.map D.int) (ns.map V.int) := by
 induction ns with
 | nil => exact .nil
 | cons n r ih => exact .cons (by simp) ih
end
section
variable {X : Cx} {tg : Expr}
noncomputable def Zg7 : D -> HD -> Option (List D × Zgr)
 | .tup xs, _ => some (xs, [])
 | .fl xs, _ => some (xs, [])
 | .ref n, H => match H[n]? with
  | some (.lst xs) => some (xs, [(n, .lst xs)])
  | _ => none
 | _, _ => none
noncomputable def Znd (i : Int) : Prop := -(2 ^ 62) ≤ i ∧ i < 2 ^ 62
instance (i : Int) : Decidable (Znd i) := by unfold Znd; exact inferInstance
noncomputable def Zar (lo : Int) (n : Nat) : List D := (List.range n).map fun k : Nat => .int (lo + (k : Int))
theorem Zn4 {lo : Int} {n i : Nat} {d : D} (h : (Zar lo n)[i]? = some d) : i < n ∧ d = .int (lo + i) := by
 unfold Zar at h
 rw [List.getElem?_map] at h
 obtain ⟨k, h1, rfl⟩ := Zm h
 rw [List.getElem?_eq_some_iff] at h1
 obtain ⟨hl, h1⟩ := h1
 simp at h1 hl
 subst h1
 exact ⟨hl, rfl⟩
theorem Zqb {K : PySem.W.Frag} {H0 : Hp} {ι0 : List Addr} (lo : Int) (n : Nat) : ItRep K (Itr lo n) (Zar lo n) [] H0 ι0 := by
 refine ⟨fun i H2 ι2 Hd2 l2 h2 _ hi => (show i < n by simpa [Zar] using hi), fun i H2 ι2 Hd2 d x H3 l2 h2 _ hd y => ?_, fun i H2 ι2 Hd2 l2 h2 _ hi => (show n ≤ i by simpa [Zar] using hi)⟩
 obtain ⟨rfl, rfl⟩ := y
 obtain ⟨_, rfl⟩ := Zn4 hd
 exact ⟨ι2, Le.refl, h2, by simp⟩
noncomputable def iR1 (f : AF) : ItF := fun σ H => (f σ H).bind fun p => match p.1 with
 | [.int j] => if Znd j then some ((Zar 0 j.toNat, []), p.2) else none
 | _ => none
theorem Zn0 {a : Expr} {f : AF} {p pos : Pos} (hg : Gl X "range") (hm : X.mg "range" = none) (ha : PAf X [a] f) (hs : starEach [a] X.env = [(false, eval a X.env)] := by rfl) : PIf X tg (.Call (.Name "range" p) [a] [] pos) (iR1 f) := by
 refine PIi (Zp1 hg hm ha hs) fun σ H R zz => ?_
 obtain ⟨ι, σd, Hd, xs, own, Hd', s, hr, e, q⟩ := zz
 obtain ⟨⟨ds, H1⟩, e1, e⟩ := Zo e
 dsimp only at e
 split at e
 ·rename_i j
  split at e
  ·rename_i hj
   cases e
   refine ⟨ι, σd, Hd, _, _, s, hr, e1, fun vs H' ι' l h P => ?_⟩
   obtain ⟨v, rfl, r⟩ := Zls P
   simp at r
   subst r
   exact ⟨j, rfl, hj.1, hj.2, q _ H' ι' l h (Zqb 0 _)⟩
  ·cases e
 ·cases e
end
open Builtin.SmallTypes (nextOf)
section
variable {prog : Program} {w : World} {A : Around} {E : Value -> Shared -> Prop} {s : Shared}
theorem Zm8 {j t : Addr} {i : Nat} {its : Array Value} {x : Value} {Q : Value -> Shared -> Prop} (hj : s.heap.IsTupleIter j t i) (ht : s.heap.IsTuple t its) (hx : its[i]? = some x)
  (hQ : ∀ h', h'.IsTupleIter j t (i + 1) -> Heap.SameBut j s.heap h' -> Q x { s with heap := h' }) : wpAny (model prog w) A (nextOf (.ref j)) Q E s := by
 obtain ⟨oj, ho, hcj, hdj⟩ := id hj
 obtain ⟨ot, hot, _, nt, hdt⟩ := ht
 unfold nextOf
 refine wpAny_bind (wpAny_callSpecial?_slot (name := Str.ofString "__next__") hj.typeIs F.slot_tuple_iterator_next (wpAny_call_entry F.slot_tuple_iterator_next hj.typeIs F.entry_tuple_iterator_next ?_ (F.args_tuple_iterator_next_1 _)))
 show wpAny _ _ (field (.ref j) 0 >>= _) _ _ s
 refine wpAny_bind (wpAny_field ho hdj (x := .ref t) rfl ?_)
 show wpAny _ _ (if (Value.ref t == Value.none) = true then _ else _) _ _ s
 rw [if_neg (show ¬ ((Value.ref t == Value.none) = true) by intro z; cases z)]
 show wpAny _ _ (field (.ref j) 1 >>= _) _ _ s
 refine wpAny_bind (wpAny_field ho hdj (x := .int i 0) rfl ?_)
 show wpAny _ _ (seqItems? (.ref t) >>= _) _ _ s
 refine wpAny_bind (wpAny_seqItems hot hdt ?_)
 simp only [Int.toNat_natCast, hx]
 refine wpAny_bind (wpAny_setField ho hdj (by simp) (wpAny_pure ⟨x, rfl, wpAny_pure (hQ _ ⟨_, Heap.get?_update_self _ ho (Obj.isFreed_of_fields (Obj.data_mapFields hdj _)), (Obj.cls_mapFields ..).trans hcj, ?_⟩ (Heap.SameBut.update ..))⟩))
 rw [Obj.data_mapFields hdj]; simp [rawInt]
theorem Zpm {j t : Addr} {i : Nat} {its : Array Value} {Q : Value -> Shared -> Prop} (hh : A.handled = none) (hj : s.heap.IsTupleIter j t i) (ht : s.heap.IsTuple t its) (hx : its[i]? = none)
  (hE : ∀ h' e, Heap.ExtBut j s.heap h' → (∃ o, h'.get? e = some o ∧ o.cls = .type "StopIteration") → E (.ref e) { s with heap := h' }) : wpAny (model prog w) A (nextOf (.ref j)) Q E s := by
 obtain ⟨oj, ho, hcj, hdj⟩ := id hj
 obtain ⟨ot, hot, _, nt, hdt⟩ := ht
 unfold nextOf
 refine wpAny_bind (wpAny_callSpecial?_slot (name := Str.ofString "__next__") hj.typeIs F.slot_tuple_iterator_next (wpAny_call_entry F.slot_tuple_iterator_next hj.typeIs F.entry_tuple_iterator_next ?_ (F.args_tuple_iterator_next_1 _)))
 show wpAny _ _ (field (.ref j) 0 >>= _) _ _ s
 refine wpAny_bind (wpAny_field ho hdj (x := .ref t) rfl ?_)
 show wpAny _ _ (if (Value.ref t == Value.none) = true then _ else _) _ _ s
 rw [if_neg (show ¬ ((Value.ref t == Value.none) = true) by intro z; cases z)]
 show wpAny _ _ (field (.ref j) 1 >>= _) _ _ s
 refine wpAny_bind (wpAny_field ho hdj (x := .int i 0) rfl ?_)
 show wpAny _ _ (seqItems? (.ref t) >>= _) _ _ s
 refine wpAny_bind (wpAny_seqItems hot hdt ?_)
 simp only [Int.toNat_natCast, hx]
 refine wpAny_bind (wpAny_rule (wpAny_bind (wpAny_setField ho hdj (by simp) ?_)))
 show wpAny _ _ (newExc (.type "StopIteration") [] >>= _) _ _ _
 refine wpAny_bind ?_
 simp only [newExc, newTuple]
 refine wpAny_bind (wpAny_newObj_type ?_ (by size_fits))
 refine wpAny_bind (m := firstArgMember _ _) (wpAny_of_eq (a := Value.none) (by first | rfl | (simp only [firstArgMember]; rfl)) (wpAny_newObj_type ?_ (by size_fits)))
 simp only [raiseNew]
 refine wpAny_bind (wpAny_handled ?_)
 first | rw [show A.in1.handled = none from hh] | rw [hh]
 exact wpAny_bind (wpAny_pure (wpAny_throw (hE _ _ (((Heap.SameBut.update ..).extBut.push _).push _) ⟨_, Heap.get?_push_size _ rfl, rfl⟩)))
theorem Zpu {e j t : Addr} {i : Nat} {c : Int} {its : Array Value} {x old : Value} {Q : Option Value -> Shared -> Prop} (he : IsEnum s.heap e j c old) (hj : s.heap.IsTupleIter j t i) (ht : s.heap.IsTuple t its) (hx : its[i]? = some x) (hne : e ≠ j)
  (hQ : ∀ h' tk, IsEnumOut h' e j (c + 1) x s.heap.objs.size → h'.IsTupleIter j t (i + 1) → h'.get? s.heap.objs.size = some { cls := .type "tuple", data := .seq #[.int c tk, x] } → h'.objs.size = s.heap.objs.size + 1 →
   (∀ b o, b ≠ e -> b ≠ j -> s.heap.get? b = some o -> h'.get? b = some o) -> Q (some (.ref s.heap.objs.size)) { s with heap := h', toks := s.toks + 1 }) :
  wpAny (model prog w) A (pyNext (.ref e)) Q E s := by
 have hT : s.TypeIs (.ref e) "enumerate" := ⟨_, he, rfl⟩
 unfold pyNext
 refine wpAny_bind (wpAny_attempt (wpAny_callSpecial?_slot (name := Str.ofString "__next__") hT F.slot_enumerate_next (wpAny_call_entry F.slot_enumerate_next hT F.entry_enumerate_next ?_ (F.args_enumerate_next_1 _))))
 obtain ⟨hp, g, d, tk, os⟩ := s
 show wpAny _ _ (field (.ref e) 2 >>= _) _ _ _
 refine wpAny_bind (wpAny_field he rfl (x := .ref j) rfl (wpAny_bind (Zm8 hj ht hx fun h1 j1 s1 => ?_)))
 replace s1 : Heap.SameBut j hp h1 := s1
 have e1 : IsEnum h1 e j c old := (s1.2 e hne).trans he
 show wpAny _ _ (field (.ref e) 3 >>= _) _ _ ⟨h1, g, d, tk, os⟩
 refine wpAny_bind (wpAny_field e1 rfl (x := rawInt c) rfl ?_)
 show wpAny _ _ (field (.ref e) 4 >>= _) _ _ ⟨h1, g, d, tk, os⟩
 refine wpAny_bind (wpAny_field e1 rfl (x := .none) rfl ?_)
 show wpAny _ _ (mkInt c >>= _) _ _ ⟨h1, g, d, tk, os⟩
 refine wpAny_bind (wpAny_mkInt ?_)
 show wpAny _ _ (setField (.ref e) 3 (rawInt (c + 1)) >>= _) _ _ ⟨h1, g, d, tk + 1, os⟩
 refine wpAny_bind (wpAny_setField_rec e1 (by simp) fun h2 e2 s2 => ?_)
 replace s2 : Heap.SameBut e h1 h2 := s2
 replace e2 : IsEnum h2 e j (c + 1) old := e2
 show wpAny _ _ (setField (.ref e) 4 .none >>= _) _ _ ⟨h2, g, d, tk + 1, os⟩
 refine wpAny_bind (wpAny_setField_rec e2 (by simp) fun h3 e3 s3 => ?_)
 replace s3 : Heap.SameBut e h2 h3 := s3
 replace e3 : IsEnum h3 e j (c + 1) old := e3
 show wpAny _ _ (newTuple [.int c tk, x] >>= _) _ _ ⟨h3, g, d, tk + 1, os⟩
 refine wpAny_bind (wpAny_newTuple ?_)
 have e4 : IsEnum (h3.push { cls := .type "tuple", data := .seq #[.int c tk, x] }) e j (c + 1) old := Heap.get?_push_of_some _ e3
 generalize q4 : h3.push { cls := .type "tuple", data := .seq #[.int c tk, x] } = h4 at e4
 have zz : h3.objs.size = hp.objs.size := by rw [s3.1, s2.1, s1.1]
 have lt : e < hp.objs.size := Heap.lt_size he
 have t4 : h4.get? hp.objs.size = some { cls := .type "tuple", data := .seq #[.int c tk, x] } := by rw [← q4, ← zz]; exact Heap.get?_push_size _ rfl
 have z4 : h4.objs.size = hp.objs.size + 1 := by rw [← q4, Heap.size_push, zz]
 have k4 : ∀ b o, b ≠ e -> b ≠ j -> hp.get? b = some o -> h4.get? b = some o := fun b o n1 n2 q => by
  rw [← q4]; exact Heap.get?_push_of_some _ (s3.extBut b o n1 (s2.extBut b o n1 (s1.extBut b o n2 q)))
 have j4 : h4.IsTupleIter j t (i + 1) := by
  obtain ⟨o, ho, r⟩ := id j1
  exact ⟨o, by rw [← q4]; exact Heap.get?_push_of_some _ (s3.extBut j o (Ne.symm hne) (s2.extBut j o (Ne.symm hne) ho)), r⟩
 show wpAny _ _ (Builtin.SmallTypes.ownedTupleIsFree (.ref e) >>= _) _ _ ⟨h4, g, d, tk + 1, os⟩
 rw [zz]
 clear q4 e3 s3 e2 s2 e1 s1 j1 zz h3 h2 h1
 refine wpAny_bind ?_
 unfold Builtin.SmallTypes.ownedTupleIsFree
 refine wpAny_bind (wpAny_field e4 rfl (x := .none) rfl (wpAny_pure ?_))
 simp only [if_true]
 refine wpAny_bind (wpAny_rule (wpAny_bind (wpAny_field e4 rfl (x := old) rfl (wpAny_bind (wpAny_setField_rec e4 (by simp) fun h5 e5 s5 => ?_)))))
 replace s5 : Heap.SameBut e h4 h5 := s5
 replace e5 : IsEnum h5 e j (c + 1) x := e5
 show wpAny _ _ (Builtin.SmallTypes.ownedTupleHandOut (.ref e) (.ref hp.objs.size) >>= _) _ _ ⟨h5, g, d, tk + 1, os⟩
 refine wpAny_bind ?_
 unfold Builtin.SmallTypes.ownedTupleHandOut
 refine wpAny_bind (wpAny_setField_rec e5 (by simp) fun h6 e6 s6 => ?_)
 replace s6 : Heap.SameBut e h5 h6 := s6
 replace e6 : IsEnumOut h6 e j (c + 1) x hp.objs.size := e6
 refine wpAny_setField_rec e6 (by simp) fun h7 e7 s7 => ?_
 replace s7 : Heap.SameBut e h6 h7 := s7
 replace e7 : IsEnumOut h7 e j (c + 1) x hp.objs.size := e7
 have up : ∀ b o, b ≠ e -> h4.get? b = some o -> h7.get? b = some o := fun b o n q => s7.extBut b o n (s6.extBut b o n (s5.extBut b o n q))
 refine wpAny_bind (wpAny_letGo (wpAny_pure ⟨_, rfl, wpAny_pure (hQ h7 tk e7 ?_ (up _ _ (Nat.ne_of_gt lt) t4) (by rw [s7.1, s6.1, s5.1, z4]) fun b o n1 n2 q => up b o n1 (k4 b o n1 n2 q))⟩))
 obtain ⟨o, ho, r⟩ := id j4
 exact ⟨o, up j o (Ne.symm hne) ho, r⟩
theorem Zo2 {e j t : Addr} {i : Nat} {c : Int} {its : Array Value} {old : Value} {Q : Option Value -> Shared -> Prop} (hh : A.handled = none) (he : IsEnum s.heap e j c old) (hj : s.heap.IsTupleIter j t i) (ht : s.heap.IsTuple t its) (hx : its[i]? = none)
  (hQ : ∀ h', Heap.ExtBut j s.heap h' -> Q none { s with heap := h' }) : wpAny (model prog w) A (pyNext (.ref e)) Q E s := by
 have hT : s.TypeIs (.ref e) "enumerate" := ⟨_, he, rfl⟩
 unfold pyNext
 refine wpAny_bind (wpAny_attempt (wpAny_callSpecial?_slot (name := Str.ofString "__next__") hT F.slot_enumerate_next (wpAny_call_entry F.slot_enumerate_next hT F.entry_enumerate_next ?_ (F.args_enumerate_next_1 _))))
 show wpAny _ _ (field (.ref e) 2 >>= _) _ _ _
 refine wpAny_bind (wpAny_field he rfl (x := .ref j) rfl (wpAny_bind (Zpm hh hj ht hx fun h' z he' zz => ?_)))
 obtain ⟨o, ho, hc⟩ := zz
 exact wpAny_bind (wpAny_isInstance (T := "StopIteration") (b := true) ⟨o, ho, hc⟩ isSubtype_stop (wpAny_pure (hQ _ he')))
open AutoSeq1 (wpAny_loadPart') in
theorem Zp0 (t : Addr) (its : Array Value) (n : Nat) (dct : Option Addr) (sl : Array (Option Value)) :
  Meets (Builtin.«enumerate.__new__» ⟨[.type "enumerate", .ref t], []⟩) (fun _ R s => s.heap.get? t = some { cls := .type "tuple", dict := dct, data := .seq its n, slots := sl } ∧
   R (.ok (.ret (.ref (s.heap.push { cls := .type "tuple_iterator", data := .fields #[.ref t, .int 0 0] }).objs.size)))
    { s with heap := (s.heap.push { cls := .type "tuple_iterator", data := .fields #[.ref t, .int 0 0] }).push { cls := .type "enumerate", data := .fields #[.none, .bool false, .ref s.heap.objs.size, rawInt 0, .none, .none] } }) :=
 .of_wp fun prog w A R s h => by
  obtain ⟨hp, g, d, tk, os⟩ := s; obtain ⟨hl, h⟩ := h
  have hsub := sub_enumerate
  have hL : Heap.IsTuple (Shared.heap ⟨hp, g, d, tk, os⟩) t its := ⟨_, hl, rfl, n, rfl⟩
  wp_walk using wpAny_loadPart' hl
  refine wpAny_stack_any fun st => wpAny_pure ?_
  split
  ·rename_i k _ _ _ _ _
   cases (k == Value.type "enumerate") <;> (wp_walk using wpAny_loadPart' hl, wpAny_pyIter_tuple hL; exact ⟨_, rfl, h⟩)
  ·wp_walk using wpAny_loadPart' hl, wpAny_pyIter_tuple hL
   exact ⟨_, rfl, h⟩
theorem Znz {t : Addr} {its : Array Value} {Q : Value -> Shared -> Prop} (hL : s.heap.IsTuple t its)
  (h : ∀ h', IsEnum h' (s.heap.objs.size + 1) s.heap.objs.size 0 .none -> h'.IsTupleIter s.heap.objs.size t 0 -> h'.objs.size = s.heap.objs.size + 2 →
   (∀ b o, s.heap.get? b = some o -> h'.get? b = some o) -> Q (.ref (s.heap.objs.size + 1)) { s with heap := h' }) :
  wpAny (model prog w) A (call (.type "enumerate") [.ref t]) Q E s := by
 obtain ⟨⟨k, dct, dt, sl⟩, hl, hc, n, hd⟩ := hL
 replace hc : k = .type "tuple" := hc
 replace hd : dt = .seq its n := hd
 subst hc hd
 refine callType_new F.called_enumerate (by decide) (F.typeCall_enumerate_1 _) (F.newCall_enumerate_1 _) (fun obj => F.args_object_init_2 obj _) F.entry_enumerate_new (Zp0 t its n dct sl) ⟨hl, ?_⟩
 have hz : (s.heap.push { cls := .type "tuple_iterator", data := .fields #[.ref t, .int 0 0] }).objs.size = s.heap.objs.size + 1 := Heap.size_push ..
 show _ ∧ _
 rw [hz]
 have he : IsEnum ((s.heap.push { cls := .type "tuple_iterator", data := .fields #[.ref t, .int 0 0] }).push { cls := .type "enumerate", data := .fields #[.none, .bool false, .ref s.heap.objs.size, rawInt 0, .none, .none] }) (s.heap.objs.size + 1) s.heap.objs.size 0 .none := by
  have q := Heap.get?_push_size (s.heap.push { cls := .type "tuple_iterator", data := .fields #[.ref t, .int 0 0] }) (o := { cls := .type "enumerate", data := .fields #[.none, .bool false, .ref s.heap.objs.size, rawInt 0, .none, .none] }) rfl
  rw [hz] at q; exact q
 exact ⟨⟨_, he, rfl⟩, h _ he ⟨_, Heap.get?_push_of_some _ (Heap.get?_push_size _ rfl), rfl, rfl⟩ (by rw [Heap.size_push, hz]) fun b o x => Heap.get?_push_of_some _ (Heap.get?_push_of_some _ x)⟩
end
noncomputable def IteT (K : PySem.W.Frag) (c : Int) (a : Addr) : It :=
 ⟨fun i H => ∃ xs x, SqT K H a xs ∧ xs[i]? = some x, fun i H v H' => ∃ p x, H p = none ∧ v = .ref p ∧ H' = upd H p (.tup [.int (c + i), x]) ∧ ∀ xs, SqT K H a xs -> xs[i]? = some x, fun i H => ∃ xs, SqT K H a xs ∧ xs.length ≤ i⟩
theorem Znq {P : Program} {w : World} {K : PySem.W.Frag} {es : List Expr} {k : Nat} {pos : Pos} (a e j : Addr) (c : Int) (hne : e ≠ j) : Turn P w K (.Tuple es k pos) (IteT K c a) [e, j] e (fun i h => ∃ old, IsEnum h e j (c + i) old ∧ h.IsTupleIter j a i) where
 mem := by simp
 obj := fun i h st b hb => by
  obtain ⟨old, he, o, ho, hc, hd⟩ := st
  rcases List.mem_cons.mp hb with rfl | hb
  ·exact ⟨_, he, fun v z => by cases z⟩
  ·have : b = j := by simpa using hb
   subst this
   exact ⟨o, ho, fun v z => by rw [hd] at z; cases z⟩
 keep := fun i h h' st kk => by
  obtain ⟨old, he, o, ho, r⟩ := st
  exact ⟨old, kk e (by simp) _ he, o, kk j (by simp) o ho, r⟩
 item := by
  intro X hP hw hK hc i pins s σ H E I hf st hg
  subst hP hw hK
  obtain ⟨xs, x, hq, hx⟩ := hg
  obtain ⟨old, he, hj⟩ := st
  obtain ⟨its, rv, p, hz⟩ := I.tuple hq
  obtain ⟨u, hu, ru⟩ := rv.get hx
  have fe := hf e (by simp)
  have fj := hf j (by simp)
  refine Zpu he hj (show s.heap.IsTuple a its.toArray from p) (x := u) (by simpa using hu) hne fun h' tk eo j' t' z' kk => ?_
  refine ⟨_, rfl, wpAny_letOwnedTupleGo_enum (s := { s with heap := h', toks := s.toks + 1 }) eo fun h2 e2 s2 => ?_⟩
  replace s2 : Heap.SameBut e h' h2 := s2
  have le : e < s.heap.objs.size := Heap.lt_size he
  have ne2 : s.heap.objs.size ≠ e := Nat.ne_of_gt le
  -- the iterator's two records have turned, the pair is new
  have t2 : h2.get? s.heap.objs.size = some { cls := .type "tuple", data := .seq #[.int (c + i) tk, u] } := s2.extBut _ _ ne2 t'
  have hp0 : H s.heap.objs.size = none := I.hok.fresh (Nat.le_refl _)
  have up : ∀ b o, b ∉ [e, j] -> s.heap.get? b = some o -> h2.get? b = some o := fun b o hb q =>
   s2.extBut b o (fun z => hb (by simp [z])) (kk b o (fun z => hb (by simp [z])) (fun z => hb (by simp [z])) q)
  have I2 : Inv X pins σ (upd H s.heap.objs.size (.tup [.int (c + i), x])) { s with heap := h2, toks := s.toks + 1 } := by
   refine I.step (g' := s.gens) (d' := s.drawn) (t' := s.toks + 1) (ch := [e, j]) (fun b hb => ?_) (fun b o _ _ hb q n => up b o hb q) (fun b o _ _ hb q n => ⟨o.slots, up b o hb q⟩) (fun b o _ q n => ?_) (fun b o hb q => ⟨o, up b o hb q⟩) (fun b ys q => ?_) (fun b o y q => ?_) (fun b ps q => ⟨#[], ?_⟩) (fun m hm => ?_) (fun b o q => ?_) I.bare
   ·have := hf b hb; exact ⟨this.2.2.2.1, this.2.1, this.2.2.2.2.1, this.2.2.2.2.2⟩
   ·rw [Zah (Nat.ne_of_lt (Heap.lt_size q))]; exact n
   ·rw [Zah (Zai q hp0)]; exact q
   ·rw [Zah (Zai q hp0)]; exact q
   ·rw [Zah (Zai q hp0), q]; simp
   ·obtain ⟨o, es', ep, ho, r⟩ := hm
    exact ⟨o, es', ep, s2.extBut _ o (Ne.symm fe.2.1) (kk _ o (Ne.symm fe.2.1) (Ne.symm fj.2.1) ho), r⟩
   ·by_cases hb : b = s.heap.objs.size
    ·subst hb
     rw [upd_same] at q
     cases q
     exact ⟨(by show 2 ≤ sizeLine; decide), [.int (c + i) tk, u], .cons ⟨tk, rfl⟩ (.cons ru .nil), _, t2, rfl, ⟨_, rfl⟩, rfl⟩
    ·rw [Zah hb] at q
     refine (I.hok b o q).stay (fun d v hd z => up d v (fun hm => ?_) z) (fun d z => by rw [Zah (Zai z hp0)]; exact z) fun d ys z => by rw [Zah (Zai z hp0)]; exact z
     have : H d ≠ none := by
      rcases hd with rfl | hd
      ·rw [q]; simp
      ·rw [hd]; simp
     exact this (hf d hm).1
  refine ⟨.ref s.heap.objs.size, _, I2, rfl, ⟨_, x, hp0, rfl, rfl, fun ys hy => by rw [I.tuple_inj hy hq]; exact hx⟩, ?_, fun b hb => ?_⟩
  ·obtain ⟨o, ho, r⟩ := id j'
   have ec : c + ((i + 1 : Nat) : Int) = c + (i : Int) + 1 := by push_cast; omega
   exact ⟨u, by rw [ec]; exact e2, o, s2.extBut j o (Ne.symm hne) ho, r⟩
  ·have hb2 : b ≠ s.heap.objs.size := by
    rcases List.mem_cons.mp hb with rfl | hb
    ·exact Nat.ne_of_lt le
    ·have : b = j := by simpa using hb
     subst this
     obtain ⟨o, ho, _⟩ := id hj
     exact Nat.ne_of_lt (Heap.lt_size ho)
   rw [Zah hb2]; exact (hf b hb).1
 done := by
  intro X hP hw hK hc i pins s σ H E I hf st hg
  subst hP hw hK
  obtain ⟨xs, hq, hx⟩ := hg
  obtain ⟨old, he, hj⟩ := st
  obtain ⟨its, rv, p, hz⟩ := I.tuple hq
  obtain ⟨f0, f1, f2, f3, f4, f5⟩ := hf j (by simp)
  have hl := rv.length
  exact Zo2 (I.ok.hd hc) he hj (show s.heap.IsTuple a its.toArray from p) (by simp; omega) fun h' eb => ⟨rfl, I.turned (t' := s.toks) (fun b o hb q => eb b o hb q) f0 f1 f3 f4 f5⟩
 self := fun _ _ _ _ _ st h => by
  obtain ⟨old, he, _⟩ := st
  exact wpAny_pyIter_enum he h
section
variable {X : Cx}
noncomputable def Zcv (c : Int) : List D -> List D
 | [] => []
 | x :: r => .tup [.int c, x] :: Zcv (c + 1) r
theorem Zeg : ∀ (xs : List D) (c : Int), (Zcv c xs).length = xs.length
 | [], _ => rfl
 | x :: r, c => by simp [Zcv, Zeg r]
theorem Zhm : ∀ {xs : List D} {c : Int} {i : Nat} {d : D}, (Zcv c xs)[i]? = some d -> ∃ x, xs[i]? = some x ∧ d = .tup [.int (c + i), x]
 | [], c, i, d, h => by simp [Zcv] at h
 | x :: r, c, 0, d, h => by simp [Zcv] at h; exact ⟨x, rfl, by rw [← h]; simp⟩
 | x :: r, c, i + 1, d, h => by
  simp only [Zcv, List.getElem?_cons_succ] at h
  obtain ⟨y, h1, h2⟩ := Zhm h
  refine ⟨y, by simpa using h1, ?_⟩
  rw [h2]
  have : c + 1 + (i : Int) = c + ((i + 1 : Nat) : Int) := by push_cast; omega
  rw [this]
theorem Zsx {K : PySem.W.Frag} {H0 : Hp} {ι0 : List Addr} {a : Addr} {c : Int} {xs : List D} {vs : List V} (hS : SqT K H0 a vs) (P : Paired (Rep K H0 ι0) xs vs)
  (inj : ∀ (i : Nat) (H : Hp) (x : V), (∀ ys, SqT K H a ys -> ys[i]? = some x) -> SqT K H a vs -> vs[i]? = some x) : ItRep K (IteT K c a) (Zcv c xs) [] H0 ι0 := by
 refine ⟨fun i H2 ι2 Hd2 l2 h2 _ hi => ?_, fun i H2 ι2 Hd2 d v H3 l2 h2 _ hd y => ?_, fun i H2 ι2 Hd2 l2 h2 _ hi => ⟨vs, l2.tup a vs hS, by rw [← Prd.len P, ← Zeg xs c]; exact hi⟩⟩
 ·exact ⟨vs, vs[i]'(by rw [← Prd.len P, ← Zeg xs c]; exact hi), l2.tup a vs hS, by simp⟩
 ·obtain ⟨p, x, hp, rfl, rfl, y⟩ := y
  obtain ⟨x', hx', rfl⟩ := Zhm hd
  obtain ⟨u, hu, ru⟩ := Prd.get P hx'
  have := y vs (l2.tup a vs hS)
  rw [hu] at this
  cases this
  refine ⟨ι2, Le.fresh hp _, h2.tup hp _, Zbj.mpr ⟨p, _, rfl, SqT.of upd_same, .cons (by simp) (.cons ((ru.mono l2).mono (Le.fresh hp _)) .nil)⟩⟩
noncomputable def Zss (f : AF) : ItF := fun σ H => (f σ H).bind fun p => match p.1 with
 | [.tup xs] => some ((Zcv 0 xs, []), p.2)
 | _ => none
theorem Ztb {es : List Expr} {k : Nat} {tp p pos : Pos} {a : Expr} {f : AF} (hg : Gl X "enumerate") (hm : X.mg "enumerate" = none) (ha : PAf X [a] f) (hs : starEach [a] X.env = [(false, eval a X.env)] := by rfl) : PIf X (.Tuple es k tp) (.Call (.Name "enumerate" p) [a] [] pos) (Zss f) := by
 rintro pins s σ H R I ⟨ι, σd, Hd, xs, own, Hd', sr, hr, e, q⟩
 obtain ⟨⟨ds, H1⟩, e1, e⟩ := Zo e
 dsimp only at e
 split at e
 ·rename_i ys
  cases e
  refine Call_ (Zey I hg hm boot_enumerate (PyProof.Rows.callWith_type1 (thn (ha pos pins s σ H (fun vs H' => ∃ a ws, vs = [.ref a] ∧ SqT X.K H' a ws ∧ ∀ (J : It) (H2 : Hp), H2 = H' -> J = IteT X.K 0 a -> R J H2) I ⟨ι, σd, Hd, _, _, sr, hr, e1, fun vs H' ι' l h P => ?_⟩) fun us s1 ⟨vs, H2, I2, r2, q2⟩ => ?_) hs rfl))
  ·obtain ⟨v, rfl, r⟩ := Zls P
   obtain ⟨ad, ws, rfl, hS, P2⟩ := Zbj.mp r
   refine ⟨ad, ws, rfl, hS, fun J H2 e2 e3 => ?_⟩
   subst e2 e3
   exact q _ _ ι' l h (Zsx hS P2 fun i H x y h => y ws h)
  ·obtain ⟨ad, ws, rfl, hS, q2⟩ := q2
   obtain ⟨u, rfl, ru⟩ := Zgp r2
   cases ru
   obtain ⟨its, rv, p, hz⟩ := I2.tuple hS
   refine Znz (show s1.heap.IsTuple ad its.toArray from p) fun h' he hj z' kk => ?_
   have I3 : Inv X pins σ H2 { s1 with heap := h' } := I2.kept (t' := s1.toks) kk
   refine wpAny_pyIter_enum (s := { s1 with heap := h' }) he ?_
   have ne : s1.heap.objs.size + 1 ≠ s1.heap.objs.size := Nat.succ_ne_self _
   refine ⟨s1.heap.objs.size + 1, [s1.heap.objs.size + 1, s1.heap.objs.size], _, IteT X.K 0 ad, H2, rfl, I3, Znq ad _ _ 0 ne, ⟨.none, by simpa using he, hj⟩, fun b hb => ?_, q2 _ _ rfl rfl⟩
   have : s1.heap.objs.size ≤ b := by
    rcases List.mem_cons.mp hb with rfl | hb
    ·exact Nat.le_succ _
    ·have : b = s1.heap.objs.size := by simpa using hb
     rw [this]; exact Nat.le_refl _
   have fp := I2.fpOk (b := b) (H' := H2) this (I2.hok.fresh this)
   exact fp
 ·cases e
end
structure Fn (P : Program) (w : World) (K : PySem.W.Frag) (mg : Str -> Option Value) (base : Heap) (k : Nat) (x : Str) (ps : List Str) (F : FF) : Prop where
 ex : ∃ f fd, FnOk P w K mg base CX0 k f fd ps (spF K ps.length F) ∧ Ze2 K fd ps [] ∧ PySem.W.keepIn K (.ref f) = true ∧ mg x = some (.ref f) ∧ ∃ (oc : Value) (od : Option Addr) (osl : Array (Option Value)), K.lookup f = some ⟨oc, od, .func fd, osl⟩
theorem Zap {X : Cx} {k n : Nat} {ps : List Str} {x : Str} {p pos : Pos} {F : FF} {fa : AF} {e : Expr} {es : List Expr} (G : Fn X.prog X.w X.K X.mg X.base k x ps F) (hr : Room k X.A) (hg : Gl X x)
  (ha : PAf X (e :: es) fa) (hdb : (x == ("__debug__" : Str)) = false := by decide) (he : starEach (e :: es) X.env = (false, eval e X.env) :: starEach es X.env := by exact Zao rfl) (hpl : (backTo pos (starEach es X.env)).any (·.1) = false := by exact Zbs rfl) (hn : ps.length = n := by rfl) :
  PEf X (.Call (.Name x p) (e :: es) [] pos) (Zal n F fa) := by
 subst hn
 obtain ⟨f, fd, G1, hb, hk, hm, _⟩ := G.ex
 exact Ztz G1 hr hg hm hk hb ha hdb he hpl
noncomputable def Tf (K : PySem.W.Frag) (mg : Str -> Option Value) (x : Str) (st : Stmt) : Prop := ∃ f fd, Fun K x x st f fd ∧ mg x = some (.ref f)
theorem us0 {us : List Value} (h : us.length = 0) : us = [] := List.length_eq_zero_iff.mp h
theorem us1 {us : List Value} (h : us.length = 1) : ∃ a, us = [a] := by
 obtain ⟨a, r⟩ := List.exists_cons_of_length_eq_add_one h
 obtain ⟨t, rfl⟩ := r
 rw [us0 (us := t) (by simpa using h)]
 exact ⟨a, rfl⟩
theorem us2 {us : List Value} (h : us.length = 2) : ∃ a b, us = [a, b] := by
 obtain ⟨a, t, rfl⟩ := List.exists_cons_of_length_eq_add_one h
 obtain ⟨b, rfl⟩ := us1 (us := t) (by simpa using h)
 exact ⟨a, b, rfl⟩
theorem us3 {us : List Value} (h : us.length = 3) : ∃ a b c, us = [a, b, c] := by
 obtain ⟨a, t, rfl⟩ := List.exists_cons_of_length_eq_add_one h
 obtain ⟨b, c, rfl⟩ := us2 (us := t) (by simpa using h)
 exact ⟨a, b, c, rfl⟩
theorem us4 {us : List Value} (h : us.length = 4) : ∃ a b c d, us = [a, b, c, d] := by
 obtain ⟨a, t, rfl⟩ := List.exists_cons_of_length_eq_add_one h
 obtain ⟨b, c, d, rfl⟩ := us3 (us := t) (by simpa using h)
 exact ⟨a, b, c, d, rfl⟩
theorem us5 {us : List Value} (h : us.length = 5) : ∃ a b c d e, us = [a, b, c, d, e] := by
 obtain ⟨a, t, rfl⟩ := List.exists_cons_of_length_eq_add_one h
 obtain ⟨b, c, d, e, rfl⟩ := us4 (us := t) (by simpa using h)
 exact ⟨a, b, c, d, e, rfl⟩
theorem tf_mk {K : PySem.W.Frag} {h : Heap} {mg : Str -> Option Value} {x : Str} {st : Stmt} {f : Addr} {oc : Value} {od an : Option Addr} {osl : Array (Option Value)} {kV doc pm cdv ct : Value} (X : K.In h) (G : h.Ns mainGlobals mg)
  (a : PySem.W.nsIn K mainGlobals x = some (some (.ref f))) (l : K.lookup f = some ⟨oc, od, .func (PySem.W.fnOf x x (Zek st) (Zby st) (Zad st) .none kV doc pm an cdv ct), osl⟩)
  (c : PySem.W.codeIn K cdv x = true) (k : PySem.W.keepIn K (.ref f) = true) : Tf K mg x st := ⟨f, _, Zu1 l c k, PySem.W.mg_of X G a⟩
theorem Zbf {P : Program} {w : World} {K : PySem.W.Frag} {mg : Str -> Option Value} {base : Heap} {x : Str} {st : Stmt} {N ps : List Str} {k : Nat} {b : SF} (T : Tf K mg x st) (S : FnScope N ps (Zad st))
  (hbd : ∀ (kV doc pm : Value) (an : Option Addr) (cdv ct : Value) (us : List Value), us.length = ps.length -> bindArgs (PySem.W.fnOf x x (Zek st) (Zby st) (Zad st) .none kV doc pm an cdv ct) ⟨us, []⟩ = pure (ps.zip us))
  (hb : ∀ (f : Addr) (cdv : Value) (A : Around) (outer : List Env) (s : Shared) (H : Hp) (E : XK), Room k (A.deeper (envOfC x (Zad st) s.heap.objs.size f cdv)) →
   Zlr (Zfe CX0 P w K mg base N x (Zad st) f cdv A outer s H E).nox (Zby st) b) : Fn P w K mg base (k + 1) x ps (Za5 ps.length N.length b) := by
 obtain ⟨f, fd, F, hm⟩ := T
 refine ⟨f, fd, fn_f F S fun cdv A outer s H E hr => hb f cdv A outer s H E hr, F.binds hbd, F.kp, hm, ?_⟩
 obtain ⟨oc, od, kV, doc, pm, an, cdv, ct, osl, rfl, lk, hcd⟩ := F.ex
 exact ⟨oc, od, osl, lk⟩
noncomputable def blkB (sc scope : Scope) (N : List Str) (x : Str) (cn : List Str) (ci : List Nat) : Bool :=
 (scope.kind == .function) && scope.names.all (fun y => y.2 != .cell) && scope.names.all (fun y => y.2 != .local || scope.names.lookup y.1 == some .local) && (scope.names.lookup x == some .local) &&
 scope.names.all (fun y => y.2 != .free || sc.names.lookup y.1 == some .cell) && decide (x :: cn).Nodup && (ci.length == cn.length) &&
 (cn.zip ci).all (fun p => N[p.2]? == some p.1 && scope.names.lookup p.1 == some .free && sc.names.lookup p.1 == some .cell)
theorem Zd8 {P : Program} {w : World} {K : PySem.W.Frag} {mg : Str -> Option Value} {base : Heap} {N : List Str} {qual : Str} {sc scope : Scope} {f : Addr} {cdv : Value} {A : Around} {outer : List Env} {s : Shared} {H : Hp} {E : XK} {x : Str} {cn : List Str} {ci : List Nat}
  (h : blkB sc scope N x cn ci = true) : BlkOk (Zfe CX0 P w K mg base N qual sc f cdv A outer s H E).nox scope x cn ci := by
 unfold blkB at h
 simp only [Bool.and_eq_true, List.all_eq_true, Bool.or_eq_true, bne_iff_ne, ne_eq, beq_iff_eq, decide_eq_true_eq] at h
 obtain ⟨⟨⟨⟨⟨⟨⟨h1, h2⟩, h3⟩, h4⟩, h5⟩, h6⟩, h7⟩, h8⟩ := h
 refine ⟨h1, fun y hy => h2 y hy, fun y hy hl => (h3 y hy).resolve_left fun z => z hl, h4, fun y hy hf => ?_, h6, h7, fun j y hj => ?_⟩
 ·have := (h5 y hy).resolve_left fun z => z hf
  obtain ⟨c, hc⟩ := Zjg (n := s.heap.objs.size + 1) this
  exact Option.isSome_iff_exists.mpr ⟨c, hc⟩
 ·have hl : j < ci.length := by rw [h7]; exact (List.getElem?_eq_some_iff.mp hj).1
  have hm : (y, ci[j]) ∈ cn.zip ci := by
   refine List.mem_iff_getElem?.mpr ⟨j, ?_⟩
   rw [List.getElem?_zip_eq_some]
   exact ⟨hj, by simp [hl]⟩
  obtain ⟨⟨k1, k2⟩, k3⟩ := h8 _ hm
  exact ⟨ci[j], by simp [hl], k1, k2, .inl k3⟩
theorem Zyu : bootBuiltins "len" = some (.builtin "len") := by decide +kernel
theorem Zrn : bootBuiltins "abs" = some (.builtin "abs") := by decide +kernel
theorem Zuy : bootBuiltins "max" = some (.builtin "max") := by decide +kernel
theorem Zj7 : bootBuiltins "sorted" = some (.builtin "sorted") := by decide +kernel
theorem Zjo : bootBuiltins "isinstance" = some (.builtin "isinstance") := by decide +kernel
theorem Zvs : bootBuiltins "repr" = some (.builtin "repr") := by decide +kernel
theorem Zq5 : bootBuiltins "int" = some (.type "int") := by decide +kernel
theorem Zg0 : bootBuiltins "tuple" = some (.type "tuple") := by decide +kernel
theorem Zmg : bootBuiltins "list" = some (.type "list") := by decide +kernel
theorem Zxs : bootBuiltins "bool" = some (.type "bool") := by decide +kernel
theorem Zyk : bootBuiltins "str" = some (.type "str") := by decide +kernel
section
variable {X : Cx} {tg : Expr}
theorem Zwd {K : PySem.W.Frag} {H0 : Hp} {ι0 : List Addr} {a : Addr} {xs : List D} {vs : List V} (hS : SqT K H0 a vs) (P : Paired (Rep K H0 ι0) xs vs) : ItRep K (Itt K a) xs [] H0 ι0 := by
 refine ⟨fun i H2 ι2 Hd2 l2 h2 _ hi => ?_, fun i H2 ι2 Hd2 d x H3 l2 h2 _ hd y => ?_, fun i H2 ι2 Hd2 l2 h2 _ hi => ⟨vs, l2.tup a vs hS, by rw [← Prd.len P]; exact hi⟩⟩
 ·exact ⟨vs, vs[i]'(by rw [← Prd.len P]; exact hi), l2.tup a vs hS, by simp⟩
 ·obtain ⟨rfl, y⟩ := y
  obtain ⟨u, hu, ru⟩ := Prd.get P hd
  have := y vs (l2.tup a vs hS)
  rw [hu] at this
  cases this
  exact ⟨ι2, Le.refl, h2, ru.mono l2⟩
theorem Yac {K : PySem.W.Frag} {H0 : Hp} {ι0 : List Addr} {a : Addr} {xs : List D} {vs : List V} (hS : FzL K H0 a vs) (P : Paired (Rep K H0 ι0) xs vs) : ItRep K (Itl K a) xs [] H0 ι0 := by
 refine ⟨fun i H2 ι2 Hd2 l2 h2 _ hi => ?_, fun i H2 ι2 Hd2 d x H3 l2 h2 _ hd y => ?_, fun i H2 ι2 Hd2 l2 h2 _ hi => ⟨vs, (l2.fz a vs hS).sq, by rw [← Prd.len P]; exact hi⟩⟩
 ·exact ⟨vs, vs[i]'(by rw [← Prd.len P]; exact hi), (l2.fz a vs hS).sq, by simp⟩
 ·obtain ⟨rfl, y⟩ := y
  obtain ⟨u, hu, ru⟩ := Prd.get P hd
  have := y vs (l2.fz a vs hS).sq
  rw [hu] at this
  cases this
  exact ⟨ι2, Le.refl, h2, ru.mono l2⟩
theorem Zv0 {K : PySem.W.Frag} {H0 : Hp} {ι0 : List Addr} {a : Addr} {n : Nat} {xs : List D} (ha : ι0[n]? = some a) : ItRep K (Itl K a) xs [(n, .lst xs)] H0 ι0 := by
 have now : ∀ {H2 : Hp} {ι2 : List Addr} {Hd2 : HD}, Le K H0 ι0 H2 ι2 -> HRep K H2 ι2 Hd2 -> Zck [(n, DO.lst xs)] Hd2 -> ∃ ws, H2 a = some (.lst ws) ∧ Paired (Rep K H2 ι2) xs ws := fun {H2 ι2 Hd2} l2 h2 ok =>
  h2.obj n a _ (l2.get ha) (ok (n, .lst xs) (by simp))
 refine ⟨fun i H2 ι2 Hd2 l2 h2 ok hi => ?_, fun i H2 ι2 Hd2 d x H3 l2 h2 ok hd y => ?_, fun i H2 ι2 Hd2 l2 h2 ok hi => ?_⟩
 ·obtain ⟨ws, h3, P3⟩ := now l2 h2 ok
  exact ⟨ws, ws[i]'(by rw [← Prd.len P3]; exact hi), SqL.of h3, by simp⟩
 ·obtain ⟨ws, h3, P3⟩ := now l2 h2 ok
  obtain ⟨rfl, y⟩ := y
  obtain ⟨u, hu, ru⟩ := Prd.get P3 hd
  have := y ws (SqL.of h3)
  rw [hu] at this
  cases this
  exact ⟨ι2, Le.refl, h2, ru⟩
 ·obtain ⟨ws, h3, P3⟩ := now l2 h2 ok
  exact ⟨ws, SqL.of h3, by rw [← Prd.len P3]; exact hi⟩
noncomputable def iSq (f : EF) : ItF := fun σ H => (f σ H).bind fun p => (Zg7 p.1 p.2).map fun r => (r, p.2)
theorem Zb6 {l : Expr} {f : EF} (hl : PEf X l f) : PIf X tg l (iSq f) := by
 rintro pins s σ H R I ⟨ι, σd, Hd, xs, own, Hd', sr, hr, e, q⟩
 obtain ⟨⟨d, H1⟩, e1, e⟩ := Zo e
 obtain ⟨⟨ys, ow⟩, e2, e⟩ := Zm e
 obtain ⟨e3, rfl⟩ := Prod.mk.inj e
 obtain ⟨rfl, rfl⟩ := Prod.mk.inj e3
 refine thn (hl pins s σ H (fun v H1 => ∃ a, v = .ref a ∧ (((∃ xs, SqL X.K H1 a xs) ∧ R (Itl X.K a) H1) ∨ ((∃ xs, SqT X.K H1 a xs) ∧ R (Itt X.K a) H1))) I ⟨ι, σd, Hd, _, _, sr, hr, e1, fun v H' ι' l h r => ?_⟩) fun v s1 ⟨x, H2, I2, r2, q2⟩ => ?_
 ·cases d with
  | tup zs =>
   cases e2
   obtain ⟨a, vs, rfl, hS, P⟩ := Zbj.mp r
   exact ⟨a, rfl, .inr ⟨⟨vs, hS⟩, q _ H' ι' l h (Zwd hS P)⟩⟩
  | fl zs =>
   cases e2
   obtain ⟨a, vs, rfl, hS, P⟩ := Zfo.mp r
   exact ⟨a, rfl, .inl ⟨⟨vs, hS.sq⟩, q _ H' ι' l h (Yac hS P)⟩⟩
  | ref n =>
   simp only [Zg7] at e2
   split at e2
   ·rename_i zs eo
    obtain ⟨e5, e6⟩ := Prod.mk.inj (Option.some.inj e2)
    subst e5 e6
    obtain ⟨a, rfl, ha⟩ := Zau.mp r
    obtain ⟨vs, h1, P⟩ := h.obj n a _ ha eo
    exact ⟨a, rfl, .inl ⟨⟨vs, SqL.of h1⟩, q _ H' ι' l h (Zv0 ha)⟩⟩
   ·cases e2
  | _ => simp [Zg7] at e2
 ·obtain ⟨a, rfl, q2⟩ := q2
  cases r2
  have fp : ∀ b ∈ [s1.heap.objs.size], Zqs X pins H2 b := fun b hb => by
   have e : b = s1.heap.objs.size := by simpa using hb
   subst e
   exact I2.fpOk (Nat.le_refl _) (I2.hok.fresh (Nat.le_refl _))
  rcases q2 with ⟨⟨xs, hq⟩, q2⟩ | ⟨⟨xs, hq⟩, q2⟩
  ·obtain ⟨its, rv, p, hz⟩ := I2.list hq
   exact wpAny_pyIter_list p.isList ⟨s1.heap.objs.size, [s1.heap.objs.size], _, _, H2, rfl, I2.kept (t' := s1.toks) fun b o e => Heap.get?_push_of_some _ e, Zpb a _, ⟨_, Heap.get?_push_size _ rfl, rfl, rfl⟩, fp, q2⟩
  ·obtain ⟨its, rv, p, hz⟩ := I2.tuple hq
   exact wpAny_pyIter_tuple (show s1.heap.IsTuple a its.toArray from p) ⟨s1.heap.objs.size, [s1.heap.objs.size], _, _, H2, rfl, I2.kept (t' := s1.toks) fun b o e => Heap.get?_push_of_some _ e, Zny a _, ⟨_, Heap.get?_push_size _ rfl, rfl, rfl⟩, fp, q2⟩
end
theorem paf_c {X : Cx} {e : Expr} {es : List Expr} {f : EF} {g : AF} (ha : PEf X e f) (hr : PAf X es g) (hs : Zm0 e = true) : PAf X (e :: es) (Zaa f g) := Znf ha hr (Zao hs)
noncomputable def Zx9 (F : FF) (K : PySem.W.Frag) : Sp := spF K 1 F
theorem Zq8 {F : FF} (h : ∀ ns : List Int, ns.length ≤ 63 -> ∃ Hd', F [.fl (ns.map .int)] [] = some (.bl true, Hd')) :
  ∀ (K : PySem.W.Frag) (H : Hp) (a : Addr) (ns : List Int), ns.length ≤ 63 -> Zyn H -> SqL K H a (ns.map V.int) -> Zx9 F K [.ref a] H (fun v _ => v = .bl true) fun _ _ _ => False := by
 intro K H a ns hl hO hS
 obtain ⟨Hd', e⟩ := h ns hl
 have fz : FzL K H a (ns.map V.int) := by
  rcases hS with (h | h) | h
  ·rcases hO a with z | ⟨o, xs, z⟩
   ·rw [h] at z; cases z
   ·rw [h] at z; cases z
  ·exact .inl h
  ·exact .inr h
 have P : Paired (Rep K H []) (ns.map D.int) (ns.map V.int) := by
  generalize ns = ks
  induction ks with
  | nil => exact .nil
  | cons k ks ih => exact .cons (by simp) ih
 refine ⟨[], [.fl (ns.map .int)], [], .bl true, Hd', rfl, ⟨rfl, List.nodup_nil, fun n a o h1 h2 => by simp at h1⟩, .cons (Zfo.mpr ⟨a, _, rfl, fz, P⟩) .nil, e, fun v H' ι' l h r => by simpa using r⟩
variable {X : Cx}
noncomputable def Zjf (x : PyData) : Bool := x.canLay0 && x.showable && decide (x.depth ≤ 30) && decide (x.shown.length ≤ sizeLine)
noncomputable def Zi7 : FF := fun ds H => match ds with
 | [d] => (toP H 30 d).bind fun x => if Zjf x = true then some (.str x.shown, H) else none
 | _ => none
theorem Znx {k : Nat} (hr0 : Room k X.A) : Zig X (.builtin "repr") Zi7 := by
 rintro pins s σ H xs us Q I rv ⟨ι, ds, Hd, d, Hd', hr, P, e, q⟩
 unfold Zi7 at e
 split at e
 ·rename_i d0
  obtain ⟨v, rfl, r⟩ := Zls P
  obtain ⟨x, e1, e⟩ := Zo e
  split at e
  ·rename_i hc
   obtain ⟨rfl, rfl⟩ := Prod.mk.inj (Option.some.inj e)
   simp only [Zjf, Bool.and_eq_true, decide_eq_true_eq] at hc
   obtain ⟨⟨⟨c1, c2⟩, c3⟩, c4⟩ := hc
   cases rv with
   | cons rx rv =>
    cases rv
    rename_i u
    obtain ⟨as, ra⟩ := Zb8 I hr _ _ e1 r rx
    have fin : ∀ h' t tk, (∀ b o, s.heap.get? b = some o -> h'.get? b = some o) -> EP X pins σ Q (.str x.shown t) { s with heap := h', toks := tk } := fun h' t tk k => ⟨.str x.shown, H, I.kept k, ⟨t, rfl⟩, q _ H ι Le.refl hr (by simp)⟩
    have un : X.A.units + 64 < cLine := hr0.units
    have byRef : ∀ a, u = .ref a → wpAny (model X.prog X.w) X.A (call (.builtin "repr") [u]) (EP X pins σ Q) X.xe s := fun a ea => by
     subst ea
     exact repr_of_reads' ra c2 (PyData.noDict_hsm (PyData.hasDict_of_canLay _ c1)) hr0.gd (by omega) (fun _ _ z => z) (fun h' t tk k => fin h' t tk k) c4
    cases ra with
    | none => exact PySem.P.repr_of_none (fin s.heap s.toks (s.toks + 1) fun _ _ z => z)
    | bool b => exact PySem.P.repr_of_bool (fin s.heap s.toks (s.toks + 1) fun _ _ z => z)
    | int i t => exact PySem.P.repr_of_int (by simpa [PyData.showable] using c2) (fin s.heap s.toks (s.toks + 1) fun _ _ z => z)
    | str z t => exact PySem.P.repr_of_str (fin s.heap s.toks (s.toks + 1) fun _ _ z => z) c4
    | list _ _ _ _ => exact byRef _ rfl
    | tuple _ _ _ _ => exact byRef _ rfl
    | dict _ _ _ _ => exact byRef _ rfl
  ·cases e
 ·cases e
variable {X : Cx}
section
variable {a b c : Expr} {pos : Pos}
noncomputable def eCh (g g' : F2) (fa fb fc : EF) : EF := fun σ H => (fa σ H).bind fun p => (fb σ p.2).bind fun q => (g p.1 q.1 q.2).bind fun z => (blD z.1).bind fun k => if k = true then (fc σ z.2).bind fun w => g' q.1 w.1 w.2 else some (.bl false, z.2)
theorem Zsw {fa fb fc : EF} {g g' : F2} {σ : L2.St} {H : Hp} {Q : VK} {K : PySem.W.Frag} (h : rdE K (eCh g g' fa fb fc) σ H Q) : Zuh (rd2 K g) (rd2 K g') (rdE K fa) (rdE K fb) (rdE K fc) σ H Q := by
 obtain ⟨ι, σd, Hd, d, Hd', s, hr, e, q⟩ := h
 obtain ⟨⟨x, H1⟩, e1, e⟩ := Zo e
 obtain ⟨⟨y, H2⟩, e2, e⟩ := Zo e
 obtain ⟨⟨z, H3⟩, e3, e⟩ := Zo e
 obtain ⟨k, e4, e⟩ := Zo e
 refine ⟨ι, σd, Hd, x, H1, s, hr, e1, fun v1 H1' ι1 l1 h1 r1 => ⟨ι1, σd, H1, y, H2, s.mono l1, h1, e2, fun v2 H2' ι2 l2 h2 r2 => ⟨ι2, x, y, H2, z, H3, h2, r1.mono l2, r2, e3, fun v3 H3' ι3 l3 h3 r3 => ⟨k, Zjj e4 r3, ?_⟩⟩⟩⟩
 cases k with
 | true =>
  rw [if_pos rfl] at e ⊢
  obtain ⟨⟨u, H4⟩, e5, e⟩ := Zo e
  exact ⟨ι3, σd, H3, u, H4, s.mono ((l1.trans l2).trans l3), h3, e5, fun v4 H4' ι4 l4 h4 r4 => ⟨ι4, y, u, H4, d, Hd', h4, r2.mono (l3.trans l4), r4, e, fun v H' ι' l h r => q v H' ι' ((((l1.trans l2).trans l3).trans l4).trans l) h r⟩⟩
 | false =>
  rw [if_neg (by simp)] at e ⊢
  obtain ⟨rfl, rfl⟩ := Prod.mk.inj (Option.some.inj e)
  exact q _ H3' ι3 ((l1.trans l2).trans l3) h3 (by simp)
theorem Zg4 {op op' : CmpOp} {g g' : F2} {fa fb fc : EF} (ho : OpF X (compareOp op) g) (ho' : OpF X (compareOp op') g') (ha : PEf X a fa) (hb : PEf X b fb) (hc : PEf X c fc)
  (hm : lastMarks [op, op'] [b, c] = false) : PEf X (.Compare a [op, op'] [b, c] pos) (eCh g g' fa fb fc) :=
 PEi (Ztc ho ho' ha hb hc hm) fun _ _ _ h => Zsw h
end
variable {X : Cx}
section
variable {prog : Program} {w : World} {A : Around} {E : Value -> Shared -> Prop} {s : Shared}
theorem Zta {d : Addr} {ob : Obj} {es : Array DictEntry} {ep : Nat} {Q : Value -> Shared -> Prop} (h0 : (d == sysModules) = false) (g1 : s.heap.get? d = some ob) (g2 : ob.ExactDict) (g3 : ob.data = .dict es ep)
  (q : Q (.ref s.heap.objs.size) { s with heap := s.heap.push { cls := .type "dict_keyiterator", data := .fields #[.ref d, .int 0 0, .int es.size 0, .int ep 0] } }) : wpAny (model prog w) A (pyIter (.ref d)) Q E s := by
 have ty : s.TypeIs (.ref d) "dict" := ⟨ob, g1, g2.1⟩
 refine wpAny_pyIter_slot ty F.slot_dict_iter (wpAny_call_entry F.slot_dict_iter ty F.entry_dict_iter ?_ (F.args_dict_iter_1 _))
 unfold Builtin.«dict.__iter__» Builtin.Dict.dictSlotNone
 refine wpAny_bind (wpAny_bind (wpAny_notOrdered_dict ty (wpAny_pure ?_)))
 show wpAny _ _ (Builtin.Dict.showsAll d >>= _) _ _ s
 unfold Builtin.Dict.showsAll
 rw [if_neg (by rw [h0]; decide)]
 refine wpAny_bind (wpAny_pure (wpAny_bind (wpAny_dictEntries g1 g3 (wpAny_bind (wpAny_dictEpoch g1 g3 (wpAny_bind (wpAny_newObj_type (wpAny_pure ?_))))))))
 exact ⟨_, rfl, "dict_keyiterator", _, ⟨_, Heap.get?_push_size _ rfl, rfl⟩, F.slot_dict_keyiterator_next.lookup, by simpa [rawInt] using q⟩
theorem Zxi {d it : Addr} {ob : Obj} {es : Array DictEntry} {i ep : Nat} {Q : Option Value -> Shared -> Prop} (hit : s.heap.IsKeyIter it d i es.size ep) (g1 : s.heap.get? d = some ob) (g3 : ob.data = .dict es ep) (lt : i < es.size)
  (q : ∀ h2, h2.IsKeyIter it d (i + 1) es.size ep -> Heap.SameBut it s.heap h2 -> Q (some es[i].key) { s with heap := h2 }) : wpAny (model prog w) A (pyNext (.ref it)) Q E s := by
 have ty := hit.typeIs
 obtain ⟨oi, i1, i2, i3⟩ := id hit
 have own : Builtin.Dict_items.ownsTuple "dict_keyiterator" = false := by decide
 unfold pyNext
 refine wpAny_bind (wpAny_attempt (wpAny_callSpecial?_slot (name := Str.ofString "__next__") ty F.slot_dict_keyiterator_next (wpAny_call_entry F.slot_dict_keyiterator_next ty F.entry_dict_keyiterator_next ?_ (F.args_dict_keyiterator_next_1 _))))
 refine wpAny_bind (wpAny_pure (wpAny_bind (wpAny_bind ?_)))
 refine wpAny_bind (wpAny_typeNameOfWhole_keyiter ty (wpAny_pure (wpAny_bind (wpAny_fieldsOf i1 i3 ?_))))
 simp only [own, Bool.false_eq_true, if_false]
 show wpAny _ _ (if (Value.ref d == Value.none) = true then _ else _) _ _ s
 have nn : ¬ ((Value.ref d == Value.none) = true) := Bool.false_ne_true
 rw [if_neg nn]
 refine wpAny_bind (wpAny_pure (wpAny_bind (wpAny_dictEntries g1 g3 ?_)))
 rw [if_neg (by simp)]
 refine wpAny_bind (wpAny_pure (wpAny_bind (wpAny_dictEpoch g1 g3 ?_)))
 rw [if_neg (by simp)]
 refine wpAny_pure ?_
 have neg : ¬ ((i : Int) < 0) := by omega
 simp only [neg, if_false, Int.toNat_natCast, Array.getElem?_eq_getElem lt]
 refine wpAny_bind (wpAny_bind (wpAny_typeNameOfWhole_keyiter ty (wpAny_pure (wpAny_bind (wpAny_isOneOf_keyiter ty ?_)))))
 show wpAny _ _ (setField (.ref it) 1 (rawInt ((i : Int) + 1)) >>= _) _ _ s
 let h2 := s.heap.update it (Obj.mapFields (·.setIfInBounds 1 (rawInt ((i : Int) + 1))))
 have it2 : h2.IsKeyIter it d (i + 1) es.size ep :=
  ⟨_, Heap.get?_update_self _ i1 (Obj.isFreed_of_fields (Obj.data_mapFields i3 _)), (Obj.cls_mapFields ..).trans i2, by rw [Obj.data_mapFields i3]; simp [rawInt]⟩
 refine wpAny_bind (wpAny_setField i1 i3 (by simp) (wpAny_bind (wpAny_holding (wpAny_bind (wpAny_isOneOf_keyiter (s := { s with heap := h2 }) it2.typeIs ?_)))))
 show wpAny _ _ (pure es[i].key) _ _ _
 exact wpAny_pure (wpAny_pure ⟨_, rfl, wpAny_pure (q h2 it2 (Heap.SameBut.update ..))⟩)
theorem Zse {d it : Addr} {ob : Obj} {es : Array DictEntry} {i ep : Nat} {Q : Option Value -> Shared -> Prop} (hh : A.handled = none) (hit : s.heap.IsKeyIter it d i es.size ep) (g1 : s.heap.get? d = some ob) (g3 : ob.data = .dict es ep) (ge : es.size ≤ i)
  (q : ∀ h2, Heap.ExtBut it s.heap h2 -> Q none { s with heap := h2 }) : wpAny (model prog w) A (pyNext (.ref it)) Q E s := by
 have ty := hit.typeIs
 obtain ⟨oi, i1, i2, i3⟩ := id hit
 have own : Builtin.Dict_items.ownsTuple "dict_keyiterator" = false := by decide
 unfold pyNext
 refine wpAny_bind (wpAny_attempt (wpAny_callSpecial?_slot (name := Str.ofString "__next__") ty F.slot_dict_keyiterator_next (wpAny_call_entry F.slot_dict_keyiterator_next ty F.entry_dict_keyiterator_next ?_ (F.args_dict_keyiterator_next_1 _))))
 refine wpAny_bind (wpAny_pure (wpAny_bind (wpAny_bind ?_)))
 refine wpAny_bind (wpAny_typeNameOfWhole_keyiter ty (wpAny_pure (wpAny_bind (wpAny_fieldsOf i1 i3 ?_))))
 simp only [own, Bool.false_eq_true, if_false]
 show wpAny _ _ (if (Value.ref d == Value.none) = true then _ else _) _ _ s
 have nn : ¬ ((Value.ref d == Value.none) = true) := Bool.false_ne_true
 rw [if_neg nn]
 refine wpAny_bind (wpAny_pure (wpAny_bind (wpAny_dictEntries g1 g3 ?_)))
 rw [if_neg (by simp)]
 refine wpAny_bind (wpAny_pure (wpAny_bind (wpAny_dictEpoch g1 g3 ?_)))
 rw [if_neg (by simp)]
 refine wpAny_pure ?_
 have neg : ¬ ((i : Int) < 0) := by omega
 simp only [neg, if_false, Int.toNat_natCast, Array.getElem?_eq_none ge]
 refine wpAny_bind (wpAny_bind (wpAny_typeNameOfWhole_keyiter ty (wpAny_pure ?_)))
 show wpAny _ _ (setField (.ref it) 0 .none >>= _) _ _ s
 refine wpAny_bind (wpAny_setField i1 i3 (by simp) ?_)
 show wpAny _ _ (newExc (.type "StopIteration") [] >>= _) _ _ _
 simp only [newExc, newTuple]
 refine wpAny_bind (wpAny_bind (wpAny_newObj_type (wpAny_bind (m := firstArgMember _ _) (wpAny_of_eq (a := Value.none) (by first | rfl | (simp only [firstArgMember]; rfl)) (wpAny_newObj_type ?_ (by size_fits)))) (by size_fits)))
 simp only [raiseNew]
 refine wpAny_bind (wpAny_handled ?_)
 have hh1 : A.in1.handled = none := hh
 rw [hh1]
 refine wpAny_bind (wpAny_pure (wpAny_throw ?_))
 refine wpAny_bind (wpAny_isInstance (T := "StopIteration") (b := true) (by exact ⟨_, Heap.get?_push_size _ rfl, rfl⟩) isSubtype_stop ?_)
 exact wpAny_pure (q _ (((Heap.SameBut.update ..).extBut.push _).push _))
end
variable {X : Cx} {tg : Expr}
variable {X : Cx}
variable {X : Cx} {tg : Expr}
noncomputable def sWh (t : TF) (b : SF) : Nat -> SF
 | 0 => fun _ _ => none
 | n + 1 => fun σ H => (t σ H).bind fun p => if p.1 = true then (b σ p.2).bind fun q => match q.1 with
   | .nx => sWh t b n q.2.1 q.2.2
   | .ct => sWh t b n q.2.1 q.2.2
   | .bk => some (.nx, q.2.1, q.2.2)
   | .rt d => some (.rt d, q.2.1, q.2.2)
  else some (.nx, σ, p.2)
section
variable {X : Cx} {c : Expr} {pos : Pos}
theorem Zo5 {body : List Stmt} {t : TF} {b : SF} {n : Nat} (hp : PassesOwn (model X.prog X.w) X.A X.env X.xe) (hc : PTf X c t) (hb : Zlr X body b) : PSf X (.While c body [] pos) (sWh t b n) := by
 refine PSi (Zte hp hc hb) fun E σ H zz => ?_
 obtain ⟨ι, σd, Hd, fl, σf, Hf, s, hr, e, q⟩ := zz
 refine ⟨fun m σ' H' => ∃ ι' σd' Hd', Le X.K H ι H' ι' ∧ SRep X.K H' ι' σ' σd' ∧ HRep X.K H' ι' Hd' ∧ sWh t b m σd' Hd' = some (fl, σf, Hf), ⟨n, ι, σd, Hd, Le.refl, s, hr, e⟩, ?_⟩
 rintro m σ1 H1 ⟨ι1, σd1, Hd1, l1, s1, h1, e1⟩
 cases m with
 | zero => cases e1
 | succ m =>
  rw [sWh] at e1
  obtain ⟨⟨x, H2⟩, e2, e1⟩ := Zo e1
  refine ⟨ι1, σd1, Hd1, x, H2, s1, h1, e2, fun H3 ι3 l3 h3 => ?_⟩
  cases x with
  | true =>
   rw [if_pos rfl]
   dsimp only at e1
   rw [if_pos rfl] at e1
   obtain ⟨⟨f4, σ4, H4⟩, e4, e1⟩ := Zo e1
   refine ⟨fun σ' H' => ∃ ι' σd' Hd', Le X.K H ι H' ι' ∧ SRep X.K H' ι' σ' σd' ∧ HRep X.K H' ι' Hd' ∧ sWh t b m σd' Hd' = some (fl, σf, Hf), fun σ' H' p => ⟨m, Nat.lt_succ_self m, p⟩, ?_⟩
   refine ⟨ι3, σd1, H2, f4, σ4, H4, s1.mono l3, h3, e4, fun σ6 H6 ι6 l6 h6 s6 => ?_⟩
   have L : Le X.K H ι H6 ι6 := (l1.trans l3).trans l6
   cases f4 with
   | nx => exact ⟨ι6, σ4, H4, L, s6, h6, e1⟩
   | ct => exact ⟨ι6, σ4, H4, L, s6, h6, e1⟩
   | bk => cases e1; exact q σ6 H6 ι6 L h6 s6
   | rt d => cases e1; exact q σ6 H6 ι6 L h6 s6
  | false =>
   rw [if_neg (by simp)]
   dsimp only at e1
   rw [if_neg (by simp)] at e1
   cases e1
   exact q σ1 H3 ι3 (l1.trans l3) h3 (s1.mono l3)
end
noncomputable def Zzz (scope : Scope) (x : Str) : Bool :=
 (scope.kind == .function) && scope.names.all (fun y => y.2 != .cell && y.2 != .free) && scope.names.all (fun y => y.2 != .local || scope.names.lookup y.1 == some .local) && (scope.names.lookup x == some .local)
theorem Zy6 {X : Cx} {scope : Scope} {x : Str} (h : Zzz scope x = true) : BlkOk X scope x [] [] := by
 unfold Zzz at h
 simp only [Bool.and_eq_true, List.all_eq_true, Bool.or_eq_true, bne_iff_ne, ne_eq, beq_iff_eq] at h
 obtain ⟨⟨⟨a, b⟩, c⟩, d⟩ := h
 exact ⟨a, fun y hy => (b y hy).1, fun y hy hl => (c y hy).resolve_left fun z => z hl, d, fun y hy hf => absurd hf (b y hy).2, by simp, rfl, fun j y hj => by simp at hj⟩
noncomputable def Zij (h : Heap) (L : Addr) : List (Addr × Obj) := (List.range h.objs.size).filterMap fun a => if a = L then none else (h.get? a).map fun o => (a, o)
theorem Zlp {h : Heap} {L b : Addr} {o : Obj} (hb : b ≠ L) (e : h.get? b = some o) : (b, o) ∈ Zij h L := by
 refine List.mem_filterMap.mpr ⟨b, List.mem_range.mpr (Heap.lt_size e), ?_⟩
 rw [if_neg hb, e]; rfl
theorem Zdh {h : Heap} {L : Addr} {p : Addr × Obj} (hp : p ∈ Zij h L) : h.get? p.1 = some p.2 ∧ p.1 ≠ L := by
 obtain ⟨a, _, e⟩ := List.mem_filterMap.mp hp
 split at e
 ·cases e
 ·rename_i ne
  obtain ⟨o, e1, rfl⟩ := Zm e
  exact ⟨e1, ne⟩
theorem Zgh (b : Addr) : ({} : Heap).get? b = none := by
 cases e : ({} : Heap).get? b with
 | none => rfl
 | some o => exact absurd (Heap.lt_size e) (Nat.not_lt_zero _)
noncomputable def Zf0 (i : Int) : Int := if i < 0 then -i else i
section
variable {prog : Program} {w : World} {A : Around} {E : Value -> Shared -> Prop} {s : Shared}
theorem Zt5 {l L : Addr} {vs : List Value} {ns : List Int} {m : Str -> Option Value} {Q : Value -> Shared -> Prop} (hn : s.heap.Ns L m) (hI : IntsAre vs ns) (h64 : vs.length < 64)
  (hcol : ∀ R : List Value → Shared → Prop, R vs { s with heap := (s.heap.push (seqObj "list" #[] 0)).update s.heap.objs.size (Obj.mapSeq (· ++ vs.toArray)) } → wpAny (model prog w) A.in1 (collect (.ref l)) R E s)
  (h : ∀ h' tk out c, h'.Ns L m → (∀ b o, b ≠ L → s.heap.get? b = some o → h'.get? b = some o) → h'.get? (s.heap.objs.size + 1) = some (seqObj "list" out c) → KskOut false (ns.map Zf0) vs out.toList → Q (.ref (s.heap.objs.size + 1)) { s with heap := h', toks := tk }) :
  wpAny (model prog w) A (call (.builtin "sorted") [.ref l] [(Str.ofString "key", .builtin "abs")]) Q E s := by
 have sl : vs.length ≤ sizeLine := by rw [sizeLine_eq]; omega
 have le : ns.length = vs.length := hI.length.symm
 have lt := hn.lt
 let h1 : Heap := (s.heap.push (seqObj "list" #[] 0)).update s.heap.objs.size (Obj.mapSeq (· ++ vs.toArray))
 have z1 : h1.objs.size = s.heap.objs.size + 1 := (Heap.size_update ..).trans (size_push' ..)
 have at2 : (h1.push (seqObj "list" vs.toArray 0)).get? (s.heap.objs.size + 1) = some (seqObj "list" vs.toArray 0) := by rw [← z1]; exact Heap.get?_push_size _ rfl
 have kp : ∀ b o, s.heap.get? b = some o → (h1.push (seqObj "list" vs.toArray 0)).get? b = some o := fun b o q => by
  have hb : b < s.heap.objs.size := Heap.lt_size q
  refine Heap.get?_push_of_some _ ?_
  show Heap.get? (Heap.update _ _ _) b = some o
  rw [Heap.get?_update_ne _ _ _ _ (Nat.ne_of_lt hb)]
  exact Heap.get?_push_of_some _ q
 have F0 : Fr {} L s.heap m := ⟨hn, fun b o e => absurd ((Zgh b).symm.trans e) (by simp), Nat.zero_le _⟩
 have N0 : News {} L s.heap (Zij s.heap L) := fun p hp => ⟨(Zdh hp).1, (Zdh hp).2, Zgh _⟩
 refine call_function_entry_kw kind_sorted plain_sorted entry_sorted (ksk_s1 _ _) ?_
 unfold Builtin.«sorted»
 refine wpAny_bind (m := checkCount "sorted" 1 1 _) (wpAny_pure (wpAny_bind (hcol _ (wpAny_bind (wpAny_newList ?_ sl)))))
 show wpAny _ _ _ _ _ { s with heap := h1.push (seqObj "list" vs.toArray 0) }
 rw [show ((s.heap.push (seqObj "list" #[] 0)).update s.heap.objs.size (Obj.mapSeq (· ++ vs.toArray))).objs.size = s.heap.objs.size + 1 from z1]
 refine wpAny_bind (wpAny_holding (wpAny_call_entry_kw slot_list_sort ⟨_, at2, rfl⟩ entry_list_sort ?body (ksk_l1 _ _)))
 case body =>
  show wpAny (model prog w) A.in1.in1 (Builtin.«list.sort» ⟨[.ref (s.heap.objs.size + 1)], [(Str.ofString "key", .builtin "abs")]⟩) _ _ _
  rw [ksk_t4]
  refine ksk_sort (s := { s with heap := h1.push (seqObj "list" vs.toArray 0) }) (kz := ns.map Zf0) (news := Zij s.heap L) (F0.kept kp) (N0.grown kp) at2 (Nat.ne_of_gt (Nat.lt_succ_of_lt lt)) (Zgh _) (fun p hp => Nat.ne_of_lt (Nat.lt_succ_of_lt (Heap.lt_size (Zdh hp).1)))
   (by rw [List.length_map]; exact le) h64 (fun i v k hv hk hh tk own F N => ?_) fun h' tk out c F' N' K' => ⟨_, rfl, ?_⟩
  ·obtain ⟨n, t, rfl, e⟩ := hI.at i v hv
   rw [List.getElem?_map, e] at hk
   cases hk
   exact call_abs_int fun u tk' => KskEnd.intro F N fun p hp => hp
  ·refine wpAny_pure ⟨_, rfl, h h' tk out c F'.ns (fun b o hb e => ?_) ?_ K'⟩
   ·exact (N' _ (List.mem_cons_of_mem _ (Zlp hb e))).1
   ·exact (N' _ (List.mem_cons_self ..)).1
theorem Zl9 {l : Addr} {vs : List Value} {R : List Value -> Shared -> Prop} (ht : IsTup s.heap l vs.toArray) (hz : vs.length ≤ sizeLine)
  (h : R vs { s with heap := (s.heap.push (seqObj "list" #[] 0)).update s.heap.objs.size (Obj.mapSeq (· ++ vs.toArray)) }) : wpAny (model prog w) A (collect (.ref l)) R E s := by
 obtain ⟨o, ho, hc, n, hd⟩ := ht
 have ho2 : (s.heap.push (seqObj "list" #[] 0)).get? l = some o := Heap.get?_push_of_some _ ho
 have hN : (s.heap.push (seqObj "list" #[] 0)).get? s.heap.objs.size = some (seqObj "list" #[] 0) := Heap.get?_push_size _ rfl
 unfold collect
 refine wpAny_bind (wpAny_runValue (codeAny_builtin entry_proto_collect' (show wpAny _ _ (do again (.builtin "list.__iadd__" ⟨[← newList [], .ref l], []⟩)) _ _ s from wpAny_bind (wpAny_newList (wpAny_pure ⟨Code.quiet_builtin _ (by decide +kernel), codeAny_builtin entry_list_iadd' ?_⟩)))))
 show wpAny _ _ (Builtin.List.listExtendWith (.ref s.heap.objs.size) (.ref l) (.ref s.heap.objs.size)) _ _ { s with heap := _ }
 unfold Builtin.List.listExtendWith
 refine wpAny_bind (wpAny_typeOf (T := "tuple") ⟨o, ho2, hc⟩ ?_)
 rw [if_pos (by simp)]
 refine wpAny_bind (listItems_at ho2 hd (wpAny_bind (listItems_at (xs := #[]) (n := 0) hN rfl ?_)))
 rw [if_neg (by simp)]
 refine wpAny_bind (listUpdate_at (xs := #[]) (n := 0) hN rfl (wpAny_pure ?_) (Nat.zero_le _) (by show ((#[] : Array Value) ++ vs.toArray).size ≤ sizeLine + 1; rw [Array.size_append, List.size_toArray]; exact Nat.le_trans (by simp) (Nat.le_succ_of_le hz)))
 refine wpAny_bind (wpAny_load (get?_update_seq hN _) ?_)
 show wpAny _ _ (pure (((#[] : Array Value) ++ vs.toArray).toList)) R E _
 rw [Array.empty_append, List.toList_toArray]
 exact wpAny_pure h
end
theorem Zxe {vs : List Value} {ns : List Int} (h : IntsAre vs ns) : ∀ p ∈ (ns.map Zf0).zip vs, ∃ n t, p = (Zf0 n, .int n t) := by
 induction h with
 | nil => intro p hp; simp at hp
 | cons n t _ ih =>
  intro p hp
  rw [List.map_cons, List.zip_cons_cons] at hp
  rcases List.mem_cons.mp hp with rfl | hp
  ·exact ⟨n, t, rfl⟩
  ·exact ih p hp
noncomputable def Zx6 (p : Int × Value) : Int := match p.2 with
 | .int n _ => n
 | _ => 0
theorem Zwh {vs : List Value} {ns : List Int} (h : IntsAre vs ns) : ((ns.map Zf0).zip vs).map Zx6 = ns := by
 induction h with
 | nil => rfl
 | cons n t _ ih => rw [List.map_cons, List.zip_cons_cons, List.map_cons, ih]; rfl
theorem Zm6 : ∀ ps : List (Int × Value), (∀ p ∈ ps, ∃ n t, p = (Zf0 n, .int n t)) -> IntsAre (ps.map Prod.snd) (ps.map Zx6) ∧ (ps.map Zx6).map Zf0 = ps.map Prod.fst
 | [], _ => ⟨.nil, rfl⟩
 | p :: ps, h => by
  obtain ⟨n, t, rfl⟩ := h p (by simp)
  obtain ⟨a, b⟩ := Zm6 ps fun q hq => h q (by simp [hq])
  exact ⟨.cons n t a, by rw [List.map_cons, List.map_cons, List.map_cons, b]; rfl⟩
noncomputable def Zco (ns : List Int) : List Int := ns.mergeSort fun a b => decide (Zf0 a ≤ Zf0 b)
theorem Zdf (ns : List Int) : (Zco ns).Perm ns := List.mergeSort_perm ..
theorem Zsr (ns : List Int) : (Zco ns).Pairwise fun a b => Zf0 a ≤ Zf0 b := by
 have h := List.pairwise_mergeSort (le := fun a b : Int => decide (Zf0 a ≤ Zf0 b)) (by intro a b c h1 h2; simp at *; omega) (by intro a b; simp; omega) ns
 exact h.imp (by intro a b h; simpa using h)
theorem Zvu {x y : List Int} (h : x.map Zf0 = y.map Zf0) (hi : ∀ a ∈ x, ∀ b ∈ y, Zf0 a = Zf0 b -> a = b) : x = y := by
 induction x generalizing y with
 | nil => cases y with
  | nil => rfl
  | cons _ _ => cases h
 | cons a x ih => cases y with
  | nil => cases h
  | cons b y =>
   rw [List.map_cons, List.map_cons] at h
   obtain ⟨h1, h2⟩ := List.cons.inj h
   rw [hi a (by simp) b (by simp) h1, ih h2 fun c hc d hd => hi c (by simp [hc]) d (by simp [hd])]
theorem Zow {ns : List Int} (h : (ns.map Zf0).Nodup) : ∀ a ∈ ns, ∀ b ∈ ns, Zf0 a = Zf0 b -> a = b := by
 induction ns with
 | nil => intro a ha; cases ha
 | cons n r ih =>
  rw [List.map_cons, List.nodup_cons] at h
  intro a ha b hb e
  rcases List.mem_cons.mp ha with h1 | h1 <;> rcases List.mem_cons.mp hb with h2 | h2
  ·rw [h1, h2]
  ·exact absurd (List.mem_map.mpr ⟨b, h2, by rw [← e, h1]⟩) h.1
  ·exact absurd (List.mem_map.mpr ⟨a, h1, by rw [e, h2]⟩) h.1
  ·exact ih h.2 a h1 b h2 e
theorem Zvb {vs out : List Value} {ns : List Int} (h : IntsAre vs ns) (hn : (ns.map Zf0).Nodup) (k : KskOut false (ns.map Zf0) vs out) : IntsAre out (Zco ns) := by
 obtain ⟨ps, hp, rfl, hw⟩ := k
 obtain ⟨a, b⟩ := Zm6 ps fun p hp' => Zxe h p (hp.mem_iff.mp hp')
 have c : (ps.map Zx6).Perm ns := by rw [← Zwh h]; exact hp.map Zx6
 have d : ps.map Zx6 = Zco ns := by
  refine Zvu (Zkj ((c.map Zf0).trans ((Zdf ns).map Zf0).symm) ?_ ?_) fun x hx y hy e => Zow hn x (c.mem_iff.mp hx) y ((Zdf ns).mem_iff.mp hy) e
  ·rw [b, List.pairwise_map]; simpa using hw
  ·rw [List.pairwise_map]; exact Zsr ns
 rw [← d]; exact a
theorem Zk9 {X : Cx} {pins : List (Addr × Obj)} {σ : L2.St} {H : Hp} {s : Shared} {h' : Heap} {a : Addr} {o : HO} {t' : Nat} (I : Inv X pins σ H s) (k : ∀ b u, b ≠ X.env.locals -> s.heap.get? b = some u -> h'.get? b = some u)
  (ns : ∀ m, s.heap.Ns X.env.locals m -> h'.Ns X.env.locals m) (hp : s.heap.objs.size ≤ a) (new : Zcg X.prog X.w (upd H a o) h' a o) : Inv X pins σ (upd H a o) { s with heap := h', toks := t' } := by
 have hn := I.hok.fresh hp
 have there : ∀ b u, s.heap.get? b = some u -> ∃ o', h'.get? b = some o' := fun b u e => by
  by_cases hb : b = X.env.locals
  ·subst hb
   obtain ⟨m, hm, _⟩ := I.loc
   obtain ⟨o, _, _, ho, _⟩ := ns m hm
   exact ⟨o, ho⟩
  ·exact ⟨u, k b u hb e⟩
 refine I.step (g' := s.gens) (d' := s.drawn) (ch := []) (fun _ z => nomatch z) (fun b u hb _ _ e _ => k b u hb e) (fun b u hb _ _ e _ => ⟨u.slots, k b u hb e⟩) (fun b u _ e n => ?_) (fun b u _ e => there b u e) (fun b xs q => ?_) (fun b u xs q => ?_) (fun b ps q => ⟨#[], ?_⟩) ns (fun b u e => ?_) I.bare
 ·rw [Zah (Nat.ne_of_lt (Nat.lt_of_lt_of_le (Heap.lt_size e) hp))]; exact n
 ·rw [Zah (Zai q hn)]; exact q
 ·rw [Zah (Zai q hn)]; exact q
 ·rw [Zah (Zai q hn), q]; simp
 ·by_cases hb : b = a
  ·subst hb; rw [upd_same] at e; cases e; exact new
  ·rw [Zah hb] at e
   have nL : ∀ c, (c = b ∨ H c = some (.own b)) -> c ≠ X.env.locals := fun c hc z => by
    subst z
    have := I.free
    rcases hc with rfl | hc
    ·rw [this] at e; cases e
    ·rw [this] at hc; cases hc
   exact (I.hok b u e).stay (fun c v hc q => k c v (nL c hc) q) (fun c q => by rw [Zah (Zai q hn)]; exact q) fun c xs q => by rw [Zah (Zai q hn)]; exact q
noncomputable def Zk1 : FF := fun ds H => match ds with
 | [d] => (Zlh d H).bind fun xs => (Zf7 xs).bind fun ns => if ns.length < 64 ∧ (ns.map Zf0).Nodup then some (.ref H.length, H ++ [.lst ((Zco ns).map .int)]) else none
 | _ => none
theorem Zp7 {X : Cx} {a : Expr} {f : AF} {p p2 kp pos : Pos} (hg : Gl X "sorted") (hm : X.mg "sorted" = none) (hg2 : Gl X "abs") (hm2 : X.mg "abs" = none) (ha : PAf X [a] f) (hs : starEach [a] X.env = [(false, eval a X.env)] := by rfl) :
  PEf X (.Call (.Name "sorted" p) [a] [⟨some "key", .Name "abs" p2, kp⟩] pos) (eCB Zk1 f) := by
 rintro pins s σ H Q I ⟨ι, σd, Hd, d, Hd', sr, hr, e, q⟩
 obtain ⟨⟨ds, H1⟩, e1, e⟩ := Zo e
 dsimp only at e
 unfold Zk1 at e
 split at e
 ·rename_i d0
  obtain ⟨ys, e2, e⟩ := Zo e
  obtain ⟨ns, e3, e⟩ := Zo e
  split at e
  ·rename_i hc
   show wpAny _ _ (do callWith pos (← eval (.Name "sorted" p) X.env) [] (backTo pos (starEach [a] X.env)) (backToKw pos (keywordEach [⟨some "key", .Name "abs" p2, kp⟩] X.env))) _ _ _
   refine wpAny_bind (Zey I hg hm Zj7 (callWith_builtin_kwB (by rw [hs]; rfl) rfl ?_))
   have hA := ha pos pins s σ H (fun vs H' => ∃ ι', Le X.K H ι H' ι' ∧ HRep X.K H' ι' H1 ∧ Paired (Rep X.K H' ι') [d0] vs) I ⟨ι, σd, Hd, _, _, sr, hr, e1, fun vs H' ι' l h P => ⟨ι', l, h, P⟩⟩
   rw [hs] at hA ⊢
   refine evalArgs_kwB rfl (thn hA fun us s1 ⟨vs, H2, I2, r2, ι2, l2, h2, P2⟩ => kws_cons (Zey I2 hg2 hm2 Zrn (kws_nil ?_)))
   obtain ⟨v, rfl, r⟩ := Zls P2
   obtain ⟨u, rfl, ru⟩ := Zgp r2
   obtain ⟨ad, ws, rfl, hq, P3⟩ := Zkt h2 r e2
   cases ru
   have ev := Zle e3 P3
   subst ev
   show wpAny _ _ (call (.builtin "sorted") [.ref ad] [(Str.ofString "key", .builtin "abs")]) _ _ _
   obtain ⟨m, hn, _⟩ := I2.loc
   have hits : ∃ its : List Value, Zbt (ns.map V.int) its ∧ (∀ R : List Value → Shared → Prop, R its { s1 with heap := (s1.heap.push (seqObj "list" #[] 0)).update s1.heap.objs.size (Obj.mapSeq (· ++ its.toArray)) } → wpAny (model X.prog X.w) X.A.in1 (collect (.ref ad)) R X.xe s1) := by
    rcases hq with hq | hq
    ·obtain ⟨its, ri, pl, hz⟩ := I2.list hq
     exact ⟨its, ri, fun R hR => collect_list pl.isList hR (by rw [← ri.length]; exact hz)⟩
    ·obtain ⟨its, ri, pl, hz⟩ := I2.tuple hq
     exact ⟨its, ri, fun R hR => Zl9 pl (by rw [← ri.length]; exact hz) hR⟩
   obtain ⟨its, ri, hcol⟩ := hits
   have il : its.length = ns.length := by rw [← ri.length, List.length_map]
   refine Zt5 hn (Zix ri) (by omega) hcol fun h' tk out c hn' kk hat K' => ?_
   have hO := Zvb (Zix ri) hc.2 K'
   have hl : ((Zco ns).map V.int).length ≤ sizeLine := by
    rw [List.length_map, (Zdf ns).length_eq]
    have : sizeLine = 16777216 := sizeLine_eq
    omega
   have hp0 : H2 (s1.heap.objs.size + 1) = none := I2.hok.fresh (Nat.le_succ _)
   refine ⟨.ref (s1.heap.objs.size + 1), _, Zk9 (o := .lst ((Zco ns).map V.int)) I2 kk (fun m' hm' => by rw [hm'.eq_nsMap, ← hn.eq_nsMap]; exact hn') (Nat.le_succ _) ⟨hl, out.toList, c, Zj9 hO, by simpa using hat⟩, rfl, ?_⟩
   have hz2 : ((Zco ns).map D.int).length ≤ sizeLine := by simpa using hl
   exact (Zee h2 (Zj8 (Zco ns)) (show mkL ((Zco ns).map D.int) H1 = some (d, Hd') by unfold mkL; rw [if_pos hz2, e]) (fun v H' ι' l h r => q v H' ι' (l2.trans l) h r)).2 _ hp0
  ·cases e
 ·cases e
open Builtin.SmallTypes (nextOf)
noncomputable def SqI (b : Bool) (h : Heap) (i l : Addr) (n : Nat) : Prop := ∃ o, h.get? i = some o ∧ o.cls = .type (if b then "list_iterator" else "tuple_iterator") ∧ o.data = .fields #[.ref l, .int n 0]
noncomputable def SqX (b : Bool) (h : Heap) (l : Addr) (xs : Array Value) : Prop := ∃ o, h.get? l = some o ∧ o.cls = .type (if b then "list" else "tuple") ∧ ∃ n, o.data = .seq xs n
section
variable {prog : Program} {w : World} {A : Around} {E : Value -> Shared -> Prop} {s : Shared}
theorem Zx2 {b : Bool} {i l : Addr} {n : Nat} {xs : Array Value} {x : Value} {Q : Value -> Shared -> Prop} (hi : SqI b s.heap i l n) (hl : SqX b s.heap l xs) (hx : xs[n]? = some x)
  (hQ : ∀ h', SqI b h' i l (n + 1) -> Heap.SameBut i s.heap h' -> Q x { s with heap := h' }) : wpAny (model prog w) A (nextOf (.ref i)) Q E s := by
 cases b
 ·exact Zm8 hi hl hx hQ
 ·exact wpAny_nextOf_list_item hi hl hx hQ
theorem Zyl {b : Bool} {i l : Addr} {n : Nat} {xs : Array Value} {Q : Value -> Shared -> Prop} (hh : A.handled = none) (hi : SqI b s.heap i l n) (hl : SqX b s.heap l xs) (hx : xs[n]? = none)
  (hE : ∀ h' e, Heap.ExtBut i s.heap h' → (∃ o, h'.get? e = some o ∧ o.cls = .type "StopIteration") → E (.ref e) { s with heap := h' }) : wpAny (model prog w) A (nextOf (.ref i)) Q E s := by
 cases b
 ·exact Zpm hh hi hl hx hE
 ·exact wpAny_nextOf_list_end hh hi hl hx hE
variable {z TI TO i1 i2 l1 l2 : Addr} {k1 k2 : Nat} {xs ys : Array Value} {b1 b2 : Bool}
end
section
variable {X : Cx} {e : Expr} {pos : Pos}
noncomputable def Zz6 : SF := fun _ _ => none
theorem Zry {st : Stmt} : PSf X st Zz6 := by
 rintro pins s σ H E I ⟨ι, σd, Hd, fl, σd', Hd', _, _, e, _⟩
 cases e
noncomputable def Zs4 : D -> Option Int
 | .int i => some i
 | _ => none
noncomputable def sAug (g : Int -> Int -> Int) (i : Nat) (f : EF) : SF := fun σ H => ((σ[i]?).join.bind Zs4).bind fun a => (f σ H).bind fun p => (Zs4 p.1).map fun b => (.nx, σ.set i (some (.int (g a b))), p.2)
theorem Zip {d : D} {i : Int} (h : Zs4 d = some i) : d = .int i := by
 cases d <;> simp [Zs4] at h
 rw [h]
theorem Zx1 {i : Nat} {x : Str} {f : EF} {op : Operator} {g : Int -> Int -> Int} {pos' : Pos} (ho : PIp X op (ipI g)) (hN : X.N.Nodup) (hi : X.N[i]? = some x) (hx : Loc X.env.scope x) (he : PEf X e f)
  (hf : X.fn x = true ∨ X.env.scope.names.lookup x = some .local := by first | exact .inl rfl | exact .inr rfl | assumption) : PSf X (.AugAssign (.Name x pos') op e pos) (sAug g i f) := by
 refine PSi (Zy3 hN hi hx he ho hf) fun E σ H zz => ?_
 obtain ⟨ι, σd, Hd, fl, σd', Hd', s, hr, e, q⟩ := zz
 obtain ⟨a, e0, e⟩ := Zo e
 obtain ⟨d, e1, e2⟩ := Zo e0
 have := Zip e2
 subst this
 obtain ⟨⟨y, H1⟩, e3, e⟩ := Zo e
 obtain ⟨b, e4, e⟩ := Zm e
 have := Zip e4
 dsimp only at this e
 subst this
 cases e
 have hv : σd[i]? = some (some (.int a)) := by
  cases hx : σd[i]? with
  | none => rw [hx] at e1; cases e1
  | some o => rw [hx] at e1; exact congrArg some e1
 obtain ⟨v, h1, h2⟩ := s.var i _ hv
 simp at h2
 subst h2
 refine ⟨_, h1, ι, σd, Hd, _, _, s, hr, e3, fun v H' ι' l h r => ?_⟩
 simp at r
 subst r
 refine ⟨a, b, rfl, rfl, q _ H' ι' l h ((s.mono l).set (by simp) i)⟩
end
open Builtin.SmallTypes (nextOf)
section
variable {prog : Program} {w : World} {A : Around} {E : Value -> Shared -> Prop} {s : Shared}
theorem Zpf {j t : Addr} {i : Nat} {its : Array Value} {x : Value} {Q : Value -> Shared -> Prop} (hj : s.heap.IsListIter j t i) (ht : s.heap.IsList t its) (hx : its[i]? = some x)
  (hQ : ∀ h', h'.IsListIter j t (i + 1) -> Heap.SameBut j s.heap h' -> Q x { s with heap := h' }) : wpAny (model prog w) A (nextOf (.ref j)) Q E s :=
 Zx2 (b := true) hj ht hx hQ
theorem Zts {j t : Addr} {i : Nat} {its : Array Value} {Q : Value -> Shared -> Prop} (hh : A.handled = none) (hj : s.heap.IsListIter j t i) (ht : s.heap.IsList t its) (hx : its[i]? = none)
  (hE : ∀ h' e, Heap.ExtBut j s.heap h' → (∃ o, h'.get? e = some o ∧ o.cls = .type "StopIteration") → E (.ref e) { s with heap := h' }) : wpAny (model prog w) A (nextOf (.ref j)) Q E s :=
 Zyl (b := true) hh hj ht hx hE
theorem Znu {e j t : Addr} {i : Nat} {c : Int} {its : Array Value} {x old : Value} {Q : Option Value -> Shared -> Prop} (he : IsEnum s.heap e j c old) (hj : s.heap.IsListIter j t i) (ht : s.heap.IsList t its) (hx : its[i]? = some x) (hne : e ≠ j)
  (hQ : ∀ h' tk, IsEnumOut h' e j (c + 1) x s.heap.objs.size → h'.IsListIter j t (i + 1) → h'.get? s.heap.objs.size = some { cls := .type "tuple", data := .seq #[.int c tk, x] } → h'.objs.size = s.heap.objs.size + 1 →
   (∀ b o, b ≠ e -> b ≠ j -> s.heap.get? b = some o -> h'.get? b = some o) -> Q (some (.ref s.heap.objs.size)) { s with heap := h', toks := s.toks + 1 }) :
  wpAny (model prog w) A (pyNext (.ref e)) Q E s := by
 have hT : s.TypeIs (.ref e) "enumerate" := ⟨_, he, rfl⟩
 unfold pyNext
 refine wpAny_bind (wpAny_attempt (wpAny_callSpecial?_slot (name := Str.ofString "__next__") hT F.slot_enumerate_next (wpAny_call_entry F.slot_enumerate_next hT F.entry_enumerate_next ?_ (F.args_enumerate_next_1 _))))
 obtain ⟨hp, g, d, tk, os⟩ := s
 show wpAny _ _ (field (.ref e) 2 >>= _) _ _ _
 refine wpAny_bind (wpAny_field he rfl (x := .ref j) rfl (wpAny_bind (Zpf hj ht hx fun h1 j1 s1 => ?_)))
 replace s1 : Heap.SameBut j hp h1 := s1
 have e1 : IsEnum h1 e j c old := (s1.2 e hne).trans he
 show wpAny _ _ (field (.ref e) 3 >>= _) _ _ ⟨h1, g, d, tk, os⟩
 refine wpAny_bind (wpAny_field e1 rfl (x := rawInt c) rfl ?_)
 show wpAny _ _ (field (.ref e) 4 >>= _) _ _ ⟨h1, g, d, tk, os⟩
 refine wpAny_bind (wpAny_field e1 rfl (x := .none) rfl ?_)
 show wpAny _ _ (mkInt c >>= _) _ _ ⟨h1, g, d, tk, os⟩
 refine wpAny_bind (wpAny_mkInt ?_)
 show wpAny _ _ (setField (.ref e) 3 (rawInt (c + 1)) >>= _) _ _ ⟨h1, g, d, tk + 1, os⟩
 refine wpAny_bind (wpAny_setField_rec e1 (by simp) fun h2 e2 s2 => ?_)
 replace s2 : Heap.SameBut e h1 h2 := s2
 replace e2 : IsEnum h2 e j (c + 1) old := e2
 show wpAny _ _ (setField (.ref e) 4 .none >>= _) _ _ ⟨h2, g, d, tk + 1, os⟩
 refine wpAny_bind (wpAny_setField_rec e2 (by simp) fun h3 e3 s3 => ?_)
 replace s3 : Heap.SameBut e h2 h3 := s3
 replace e3 : IsEnum h3 e j (c + 1) old := e3
 show wpAny _ _ (newTuple [.int c tk, x] >>= _) _ _ ⟨h3, g, d, tk + 1, os⟩
 refine wpAny_bind (wpAny_newTuple ?_)
 have e4 : IsEnum (h3.push { cls := .type "tuple", data := .seq #[.int c tk, x] }) e j (c + 1) old := Heap.get?_push_of_some _ e3
 generalize q4 : h3.push { cls := .type "tuple", data := .seq #[.int c tk, x] } = h4 at e4
 have zz : h3.objs.size = hp.objs.size := by rw [s3.1, s2.1, s1.1]
 have lt : e < hp.objs.size := Heap.lt_size he
 have t4 : h4.get? hp.objs.size = some { cls := .type "tuple", data := .seq #[.int c tk, x] } := by rw [← q4, ← zz]; exact Heap.get?_push_size _ rfl
 have z4 : h4.objs.size = hp.objs.size + 1 := by rw [← q4, Heap.size_push, zz]
 have k4 : ∀ b o, b ≠ e -> b ≠ j -> hp.get? b = some o -> h4.get? b = some o := fun b o n1 n2 q => by
  rw [← q4]; exact Heap.get?_push_of_some _ (s3.extBut b o n1 (s2.extBut b o n1 (s1.extBut b o n2 q)))
 have j4 : h4.IsListIter j t (i + 1) := by
  obtain ⟨o, ho, r⟩ := id j1
  exact ⟨o, by rw [← q4]; exact Heap.get?_push_of_some _ (s3.extBut j o (Ne.symm hne) (s2.extBut j o (Ne.symm hne) ho)), r⟩
 show wpAny _ _ (Builtin.SmallTypes.ownedTupleIsFree (.ref e) >>= _) _ _ ⟨h4, g, d, tk + 1, os⟩
 rw [zz]
 clear q4 e3 s3 e2 s2 e1 s1 j1 zz h3 h2 h1
 refine wpAny_bind ?_
 unfold Builtin.SmallTypes.ownedTupleIsFree
 refine wpAny_bind (wpAny_field e4 rfl (x := .none) rfl (wpAny_pure ?_))
 simp only [if_true]
 refine wpAny_bind (wpAny_rule (wpAny_bind (wpAny_field e4 rfl (x := old) rfl (wpAny_bind (wpAny_setField_rec e4 (by simp) fun h5 e5 s5 => ?_)))))
 replace s5 : Heap.SameBut e h4 h5 := s5
 replace e5 : IsEnum h5 e j (c + 1) x := e5
 show wpAny _ _ (Builtin.SmallTypes.ownedTupleHandOut (.ref e) (.ref hp.objs.size) >>= _) _ _ ⟨h5, g, d, tk + 1, os⟩
 refine wpAny_bind ?_
 unfold Builtin.SmallTypes.ownedTupleHandOut
 refine wpAny_bind (wpAny_setField_rec e5 (by simp) fun h6 e6 s6 => ?_)
 replace s6 : Heap.SameBut e h5 h6 := s6
 replace e6 : IsEnumOut h6 e j (c + 1) x hp.objs.size := e6
 refine wpAny_setField_rec e6 (by simp) fun h7 e7 s7 => ?_
 replace s7 : Heap.SameBut e h6 h7 := s7
 replace e7 : IsEnumOut h7 e j (c + 1) x hp.objs.size := e7
 have up : ∀ b o, b ≠ e -> h4.get? b = some o -> h7.get? b = some o := fun b o n q => s7.extBut b o n (s6.extBut b o n (s5.extBut b o n q))
 refine wpAny_bind (wpAny_letGo (wpAny_pure ⟨_, rfl, wpAny_pure (hQ h7 tk e7 ?_ (up _ _ (Nat.ne_of_gt lt) t4) (by rw [s7.1, s6.1, s5.1, z4]) fun b o n1 n2 q => up b o n1 (k4 b o n1 n2 q))⟩))
 obtain ⟨o, ho, r⟩ := id j4
 exact ⟨o, up j o (Ne.symm hne) ho, r⟩
theorem Zoc {e j t : Addr} {i : Nat} {c : Int} {its : Array Value} {old : Value} {Q : Option Value -> Shared -> Prop} (hh : A.handled = none) (he : IsEnum s.heap e j c old) (hj : s.heap.IsListIter j t i) (ht : s.heap.IsList t its) (hx : its[i]? = none)
  (hQ : ∀ h', Heap.ExtBut j s.heap h' -> Q none { s with heap := h' }) : wpAny (model prog w) A (pyNext (.ref e)) Q E s := by
 have hT : s.TypeIs (.ref e) "enumerate" := ⟨_, he, rfl⟩
 unfold pyNext
 refine wpAny_bind (wpAny_attempt (wpAny_callSpecial?_slot (name := Str.ofString "__next__") hT F.slot_enumerate_next (wpAny_call_entry F.slot_enumerate_next hT F.entry_enumerate_next ?_ (F.args_enumerate_next_1 _))))
 show wpAny _ _ (field (.ref e) 2 >>= _) _ _ _
 refine wpAny_bind (wpAny_field he rfl (x := .ref j) rfl (wpAny_bind (Zts hh hj ht hx fun h' z he' zz => ?_)))
 obtain ⟨o, ho, hc⟩ := zz
 exact wpAny_bind (wpAny_isInstance (T := "StopIteration") (b := true) ⟨o, ho, hc⟩ isSubtype_stop (wpAny_pure (hQ _ he')))
open AutoSeq1 (wpAny_loadPart') in
theorem Zpz (t : Addr) (its : Array Value) (n : Nat) (dct : Option Addr) (sl : Array (Option Value)) :
  Meets (Builtin.«enumerate.__new__» ⟨[.type "enumerate", .ref t], []⟩) (fun _ R s => s.heap.get? t = some { cls := .type "list", dict := dct, data := .seq its n, slots := sl } ∧
   R (.ok (.ret (.ref (s.heap.push { cls := .type "list_iterator", data := .fields #[.ref t, .int 0 0] }).objs.size)))
    { s with heap := (s.heap.push { cls := .type "list_iterator", data := .fields #[.ref t, .int 0 0] }).push { cls := .type "enumerate", data := .fields #[.none, .bool false, .ref s.heap.objs.size, rawInt 0, .none, .none] } }) :=
 .of_wp fun prog w A R s h => by
  obtain ⟨hp, g, d, tk, os⟩ := s; obtain ⟨hl, h⟩ := h
  have hsub := sub_enumerate
  have hL : Heap.IsList (Shared.heap ⟨hp, g, d, tk, os⟩) t its := ⟨_, hl, rfl, n, rfl⟩
  wp_walk using wpAny_loadPart' hl
  refine wpAny_stack_any fun st => wpAny_pure ?_
  split
  ·rename_i k _ _ _ _ _
   cases (k == Value.type "enumerate") <;> (wp_walk using wpAny_loadPart' hl, wpAny_pyIter_list hL; exact ⟨_, rfl, h⟩)
  ·wp_walk using wpAny_loadPart' hl, wpAny_pyIter_list hL
   exact ⟨_, rfl, h⟩
theorem Zn5 {t : Addr} {its : Array Value} {Q : Value -> Shared -> Prop} (hL : s.heap.IsList t its)
  (h : ∀ h', IsEnum h' (s.heap.objs.size + 1) s.heap.objs.size 0 .none -> h'.IsListIter s.heap.objs.size t 0 -> h'.objs.size = s.heap.objs.size + 2 →
   (∀ b o, s.heap.get? b = some o -> h'.get? b = some o) -> Q (.ref (s.heap.objs.size + 1)) { s with heap := h' }) :
  wpAny (model prog w) A (call (.type "enumerate") [.ref t]) Q E s := by
 obtain ⟨⟨k, dct, dt, sl⟩, hl, hc, n, hd⟩ := hL
 replace hc : k = .type "list" := hc
 replace hd : dt = .seq its n := hd
 subst hc hd
 refine callType_new F.called_enumerate (by decide) (F.typeCall_enumerate_1 _) (F.newCall_enumerate_1 _) (fun obj => F.args_object_init_2 obj _) F.entry_enumerate_new (Zpz t its n dct sl) ⟨hl, ?_⟩
 have hz : (s.heap.push { cls := .type "list_iterator", data := .fields #[.ref t, .int 0 0] }).objs.size = s.heap.objs.size + 1 := Heap.size_push ..
 show _ ∧ _
 rw [hz]
 have he : IsEnum ((s.heap.push { cls := .type "list_iterator", data := .fields #[.ref t, .int 0 0] }).push { cls := .type "enumerate", data := .fields #[.none, .bool false, .ref s.heap.objs.size, rawInt 0, .none, .none] }) (s.heap.objs.size + 1) s.heap.objs.size 0 .none := by
  have q := Heap.get?_push_size (s.heap.push { cls := .type "list_iterator", data := .fields #[.ref t, .int 0 0] }) (o := { cls := .type "enumerate", data := .fields #[.none, .bool false, .ref s.heap.objs.size, rawInt 0, .none, .none] }) rfl
  rw [hz] at q; exact q
 exact ⟨⟨_, he, rfl⟩, h _ he ⟨_, Heap.get?_push_of_some _ (Heap.get?_push_size _ rfl), rfl, rfl⟩ (by rw [Heap.size_push, hz]) fun b o x => Heap.get?_push_of_some _ (Heap.get?_push_of_some _ x)⟩
end
noncomputable def IteL (c : Int) (a : Addr) : It :=
 ⟨fun i H => ∃ xs x, H a = some (.lst xs) ∧ xs[i]? = some x, fun i H v H' => ∃ p x, H p = none ∧ v = .ref p ∧ H' = upd H p (.tup [.int (c + i), x]) ∧ ∀ xs, H a = some (.lst xs) -> xs[i]? = some x, fun i H => ∃ xs, H a = some (.lst xs) ∧ xs.length ≤ i⟩
theorem Znm {P : Program} {w : World} {K : PySem.W.Frag} {es : List Expr} {k : Nat} {pos : Pos} (a e j : Addr) (c : Int) (hne : e ≠ j) : Turn P w K (.Tuple es k pos) (IteL c a) [e, j] e (fun i h => ∃ old, IsEnum h e j (c + i) old ∧ h.IsListIter j a i) where
 mem := by simp
 obj := fun i h st b hb => by
  obtain ⟨old, he, o, ho, hc, hd⟩ := st
  rcases List.mem_cons.mp hb with rfl | hb
  ·exact ⟨_, he, fun v z => by cases z⟩
  ·have : b = j := by simpa using hb
   subst this
   exact ⟨o, ho, fun v z => by rw [hd] at z; cases z⟩
 keep := fun i h h' st kk => by
  obtain ⟨old, he, o, ho, r⟩ := st
  exact ⟨old, kk e (by simp) _ he, o, kk j (by simp) o ho, r⟩
 item := by
  intro X hP hw hK hc i pins s σ H E I hf st hg
  subst hP hw hK
  obtain ⟨xs, x, hq, hx⟩ := hg
  obtain ⟨old, he, hj⟩ := st
  obtain ⟨its, rv, p, hz⟩ := I.list (SqL.of hq)
  obtain ⟨u, hu, ru⟩ := rv.get hx
  have fe := hf e (by simp)
  have fj := hf j (by simp)
  refine Znu he hj p.isList (x := u) (by simpa using hu) hne fun h' tk eo j' t' z' kk => ?_
  refine ⟨_, rfl, wpAny_letOwnedTupleGo_enum (s := { s with heap := h', toks := s.toks + 1 }) eo fun h2 e2 s2 => ?_⟩
  replace s2 : Heap.SameBut e h' h2 := s2
  have le : e < s.heap.objs.size := Heap.lt_size he
  have ne2 : s.heap.objs.size ≠ e := Nat.ne_of_gt le
  -- the iterator's two records have turned, the pair is new
  have t2 : h2.get? s.heap.objs.size = some { cls := .type "tuple", data := .seq #[.int (c + i) tk, u] } := s2.extBut _ _ ne2 t'
  have hp0 : H s.heap.objs.size = none := I.hok.fresh (Nat.le_refl _)
  have up : ∀ b o, b ∉ [e, j] -> s.heap.get? b = some o -> h2.get? b = some o := fun b o hb q =>
   s2.extBut b o (fun z => hb (by simp [z])) (kk b o (fun z => hb (by simp [z])) (fun z => hb (by simp [z])) q)
  have I2 : Inv X pins σ (upd H s.heap.objs.size (.tup [.int (c + i), x])) { s with heap := h2, toks := s.toks + 1 } := by
   refine I.step (g' := s.gens) (d' := s.drawn) (t' := s.toks + 1) (ch := [e, j]) (fun b hb => ?_) (fun b o _ _ hb q n => up b o hb q) (fun b o _ _ hb q n => ⟨o.slots, up b o hb q⟩) (fun b o _ q n => ?_) (fun b o hb q => ⟨o, up b o hb q⟩) (fun b ys q => ?_) (fun b o y q => ?_) (fun b ps q => ⟨#[], ?_⟩) (fun m hm => ?_) (fun b o q => ?_) I.bare
   ·have := hf b hb; exact ⟨this.2.2.2.1, this.2.1, this.2.2.2.2.1, this.2.2.2.2.2⟩
   ·rw [Zah (Nat.ne_of_lt (Heap.lt_size q))]; exact n
   ·rw [Zah (Zai q hp0)]; exact q
   ·rw [Zah (Zai q hp0)]; exact q
   ·rw [Zah (Zai q hp0), q]; simp
   ·obtain ⟨o, es', ep, ho, r⟩ := hm
    exact ⟨o, es', ep, s2.extBut _ o (Ne.symm fe.2.1) (kk _ o (Ne.symm fe.2.1) (Ne.symm fj.2.1) ho), r⟩
   ·by_cases hb : b = s.heap.objs.size
    ·subst hb
     rw [upd_same] at q
     cases q
     exact ⟨(by show 2 ≤ sizeLine; decide), [.int (c + i) tk, u], .cons ⟨tk, rfl⟩ (.cons ru .nil), _, t2, rfl, ⟨_, rfl⟩, rfl⟩
    ·rw [Zah hb] at q
     refine (I.hok b o q).stay (fun d v hd z => up d v (fun hm => ?_) z) (fun d z => by rw [Zah (Zai z hp0)]; exact z) fun d ys z => by rw [Zah (Zai z hp0)]; exact z
     have : H d ≠ none := by
      rcases hd with rfl | hd
      ·rw [q]; simp
      ·rw [hd]; simp
     exact this (hf d hm).1
  refine ⟨.ref s.heap.objs.size, _, I2, rfl, ⟨_, x, hp0, rfl, rfl, fun ys hy => by rw [hq] at hy; cases hy; exact hx⟩, ?_, fun b hb => ?_⟩
  ·obtain ⟨o, ho, r⟩ := id j'
   have ec : c + ((i + 1 : Nat) : Int) = c + (i : Int) + 1 := by push_cast; omega
   exact ⟨u, by rw [ec]; exact e2, o, s2.extBut j o (Ne.symm hne) ho, r⟩
  ·have hb2 : b ≠ s.heap.objs.size := by
    rcases List.mem_cons.mp hb with rfl | hb
    ·exact Nat.ne_of_lt le
    ·have : b = j := by simpa using hb
     subst this
     obtain ⟨o, ho, _⟩ := id hj
     exact Nat.ne_of_lt (Heap.lt_size ho)
   rw [Zah hb2]; exact (hf b hb).1
 done := by
  intro X hP hw hK hc i pins s σ H E I hf st hg
  subst hP hw hK
  obtain ⟨xs, hq, hx⟩ := hg
  obtain ⟨old, he, hj⟩ := st
  obtain ⟨its, rv, p, hz⟩ := I.list (SqL.of hq)
  obtain ⟨f0, f1, f2, f3, f4, f5⟩ := hf j (by simp)
  have hl := rv.length
  exact Zoc (I.ok.hd hc) he hj p.isList (by simp; omega) fun h' eb => ⟨rfl, I.turned (t' := s.toks) (fun b o hb q => eb b o hb q) f0 f1 f3 f4 f5⟩
 self := fun _ _ _ _ _ st h => by
  obtain ⟨old, he, _⟩ := st
  exact wpAny_pyIter_enum he h
section
variable {X : Cx} {scope : Scope} {x y0 : Str} {cn : List Str} {ci : List Nat}
noncomputable def Zli (f : AF) : ItF := fun σ H => (f σ H).bind fun p => match p.1 with
 | [.ref n] => match p.2[n]? with
  | some (.lst xs) => some ((Zcv 0 xs, [(n, .lst xs)]), p.2)
  | _ => none
 | _ => none
theorem Zp2 {K : PySem.W.Frag} {H0 : Hp} {ι0 : List Addr} {a : Addr} {n : Nat} {c : Int} {xs : List D} (ha : ι0[n]? = some a) : ItRep K (IteL c a) (Zcv c xs) [(n, .lst xs)] H0 ι0 := by
 have now : ∀ {H2 : Hp} {ι2 : List Addr} {Hd2 : HD}, Le K H0 ι0 H2 ι2 -> HRep K H2 ι2 Hd2 -> Zck [(n, DO.lst xs)] Hd2 -> ∃ ws, H2 a = some (.lst ws) ∧ Paired (Rep K H2 ι2) xs ws := fun {H2 ι2 Hd2} l2 h2 ok =>
  h2.obj n a _ (l2.get ha) (ok (n, .lst xs) (by simp))
 refine ⟨fun i H2 ι2 Hd2 l2 h2 ok hi => ?_, fun i H2 ι2 Hd2 d v H3 l2 h2 ok hd y => ?_, fun i H2 ι2 Hd2 l2 h2 ok hi => ?_⟩
 ·obtain ⟨ws, h3, P3⟩ := now l2 h2 ok
  exact ⟨ws, ws[i]'(by rw [← Prd.len P3, ← Zeg xs c]; exact hi), h3, by simp⟩
 ·obtain ⟨ws, h3, P3⟩ := now l2 h2 ok
  obtain ⟨p, x, hp, rfl, rfl, y⟩ := y
  obtain ⟨x', hx', rfl⟩ := Zhm hd
  obtain ⟨u, hu, ru⟩ := Prd.get P3 hx'
  have := y ws h3
  rw [hu] at this
  cases this
  exact ⟨ι2, Le.fresh hp _, h2.tup hp _, Zbj.mpr ⟨p, _, rfl, SqT.of upd_same, .cons (by simp) (.cons (ru.mono (Le.fresh hp _)) .nil)⟩⟩
 ·obtain ⟨ws, h3, P3⟩ := now l2 h2 ok
  exact ⟨ws, h3, by rw [← Prd.len P3, ← Zeg xs c]; exact hi⟩
theorem Zku {es : List Expr} {k : Nat} {tp p pos : Pos} {a : Expr} {f : AF} (hg : Gl X "enumerate") (hm : X.mg "enumerate" = none) (ha : PAf X [a] f) (hs : starEach [a] X.env = [(false, eval a X.env)] := by rfl) : PIf X (.Tuple es k tp) (.Call (.Name "enumerate" p) [a] [] pos) (Zli f) := by
 rintro pins s σ H R I ⟨ι, σd, Hd, xs, own, Hd', sr, hr, e, q⟩
 obtain ⟨⟨ds, H1⟩, e1, e⟩ := Zo e
 dsimp only at e
 split at e
 ·rename_i n
  split at e
  ·rename_i ys eo
   cases e
   refine Call_ (Zey I hg hm boot_enumerate (PyProof.Rows.callWith_type1 (thn (ha pos pins s σ H (fun vs H' => ∃ a ws, vs = [.ref a] ∧ H' a = some (.lst ws) ∧ ∀ (J : It) (H2 : Hp), H2 = H' -> J = IteL 0 a -> R J H2) I ⟨ι, σd, Hd, _, _, sr, hr, e1, fun vs H' ι' l h P => ?_⟩) fun us s1 ⟨vs, H2, I2, r2, q2⟩ => ?_) hs rfl))
   ·obtain ⟨v, rfl, r⟩ := Zls P
    obtain ⟨ad, rfl, had⟩ := Zau.mp r
    obtain ⟨ws, hS, P2⟩ := h.obj n ad _ had eo
    refine ⟨ad, ws, rfl, hS, fun J H2 e2 e3 => ?_⟩
    subst e2 e3
    exact q _ _ ι' l h (Zp2 had)
   ·obtain ⟨ad, ws, rfl, hS, q2⟩ := q2
    obtain ⟨u, rfl, ru⟩ := Zgp r2
    cases ru
    obtain ⟨its, rv, p, hz⟩ := I2.list (SqL.of hS)
    refine Zn5 p.isList fun h' he hj z' kk => ?_
    have I3 : Inv X pins σ H2 { s1 with heap := h' } := I2.kept (t' := s1.toks) kk
    refine wpAny_pyIter_enum (s := { s1 with heap := h' }) he ?_
    have ne : s1.heap.objs.size + 1 ≠ s1.heap.objs.size := Nat.succ_ne_self _
    refine ⟨s1.heap.objs.size + 1, [s1.heap.objs.size + 1, s1.heap.objs.size], _, IteL 0 ad, H2, rfl, I3, Znm ad _ _ 0 ne, ⟨.none, by simpa using he, hj⟩, fun b hb => ?_, q2 _ _ rfl rfl⟩
    have : s1.heap.objs.size ≤ b := by
     rcases List.mem_cons.mp hb with rfl | hb
     ·exact Nat.le_succ _
     ·have : b = s1.heap.objs.size := by simpa using hb
      rw [this]; exact Nat.le_refl _
    exact I2.fpOk (b := b) (H' := H2) this (I2.hok.fresh this)
  ·cases e
 ·cases e
end
noncomputable def Zr2 (kvs : List (Int × D)) (k : Int) (v : D) : List (Int × D) := if kvs.any (fun p => p.1 = k) = true then kvs.map (fun p => if p.1 = k then (p.1, v) else p) else kvs ++ [(k, v)]
noncomputable def Zj6 (kvs : List (Int × D)) (k : Int) : Option D := (kvs.find? fun p => p.1 = k).map (·.2)
noncomputable def dciD (x : D) (H : HD) : Option (List (Int × D)) := match x with
 | .ref n => match H[n]? with
  | some (.dci kvs) => some kvs
  | _ => none
 | _ => none
noncomputable def iinD : F2 := fun x y H => (dciD y H).bind fun kvs => match x with
 | .int k => some (.bl (Zj6 kvs k).isSome, H)
 | _ => none
theorem Zqf {x : D} {Hd : HD} {kvs : List (Int × D)} (e : dciD x Hd = some kvs) : ∃ n, x = .ref n ∧ Hd[n]? = some (.dci kvs) := by
 cases x <;> simp only [dciD] at e <;> try cases e
 rename_i n
 split at e
 ·rename_i h; cases e; exact ⟨n, rfl, h⟩
 ·cases e
section
variable {K : PySem.W.Frag} {H : Hp} {ι : List Addr}
theorem Zs3 {kvs : List (Int × D)} {xs : List (Int × Value)} (h : Paired (Zs5 K H ι) kvs xs) (k : Int) : kvs.any (fun p => p.1 = k) = xs.any (fun p => p.1 = k) := by
 induction h with
 | nil => rfl
 | cons a b ih => rw [List.any_cons, List.any_cons, ih, a.1]
theorem Zt3 {kvs : List (Int × D)} {xs : List (Int × Value)} {k : Int} {d : D} {v : V} {u : Value} (h : Paired (Zs5 K H ι) kvs xs) (r : Zb2 v u) (q : Rep K H ι d v) : Paired (Zs5 K H ι) (kvs.map (fun p => if p.1 = k then (p.1, d) else p)) (xs.map (fun p => if p.1 = k then (p.1, u) else p)) := by
 induction h with
 | nil => exact .nil
 | cons a b ih =>
  refine .cons ?_ ih
  dsimp only
  rw [a.1]
  split
  ·exact ⟨rfl, v, r, q⟩
  ·exact a
theorem Zsf {kvs : List (Int × D)} {xs : List (Int × Value)} {k : Int} {d : D} {v : V} {u : Value} (h : Paired (Zs5 K H ι) kvs xs) (r : Zb2 v u) (q : Rep K H ι d v) : Paired (Zs5 K H ι) (Zr2 kvs k d) (stored xs k u) := by
 unfold Zr2 stored
 rw [Zs3 h k]
 split
 ·exact Zt3 h r q
 ·exact Prd.append h (.cons ⟨rfl, v, r, q⟩ .nil)
theorem Zri {kvs : List (Int × D)} {xs : List (Int × Value)} (h : Paired (Zs5 K H ι) kvs xs) (k : Int) : (Zj6 kvs k = none ∧ valueAt xs k = none) ∨ ∃ d v u, Zj6 kvs k = some d ∧ valueAt xs k = some u ∧ Zb2 v u ∧ Rep K H ι d v := by
 unfold Zj6 valueAt
 induction h with
 | nil => exact .inl ⟨rfl, rfl⟩
 | cons a b ih =>
  rename_i p x ps xs'
  by_cases e : p.1 = k
  ·have e2 : x.1 = k := by rw [← a.1]; exact e
   obtain ⟨_, v, r, q⟩ := a
   exact .inr ⟨p.2, v, x.2, by rw [List.find?_cons_of_pos (by simpa using e)]; rfl, by rw [List.find?_cons_of_pos (by simpa using e2)]; rfl, r, q⟩
  ·have e2 : ¬ x.1 = k := by rw [← a.1]; exact e
   rw [List.find?_cons_of_neg (by simpa using e), List.find?_cons_of_neg (by simpa using e2)]
   exact ih
end
theorem Ztd {p p2 : Program} {w w2 : World} {es : List DictEntry} {xs : List (Int × Value)} (e : Pairs (Zsv p w) es xs) : Pairs (Zsv p2 w2) es xs := by
 induction e with
 | nil => exact .nil
 | cons a b c ih => exact .cons a b ih
theorem Zn9 {h : Heap} {a : Addr} {xs : List (Int × Value)} {p : Program} {w : World} (d : h.DictOf (Zsv p w) a xs) : Zd5 a xs h := fun p2 w2 => by
 obtain ⟨o, es, ep, e1, e2, e3, e4, e5, e6⟩ := d
 refine ⟨o, es, ep, e1, e2, e3, e4, ?_, e6⟩
 exact Ztd e5
section
variable {X : Cx}
theorem Zup {pins : List (Addr × Obj)} {σ : L2.St} {H : Hp} {s : Shared} {ι : List Addr} (I : Inv X pins σ H s) {a : Addr} {kvs : List (Int × D)} (h : Zor X.K H ι a (.dci kvs)) : (a == sysModules) = false ∧ ∃ xs, Paired (Zs5 X.K H ι) kvs xs ∧ s.heap.DictOf (Zsv X.prog X.w) a xs := by
 obtain ⟨h1, h2, xs, h3, P⟩ := h
 exact ⟨h1, xs, P, (I.hok a _ h3).1 X.prog X.w⟩
end
section
variable {X : Cx}
theorem iinf : OpF X (compareOp .In) iinD := by
 rintro pins s σ H x y v u Q I rx ry ⟨ι, dx, dy, Hd, d, Hd', hr, r1, r2, e, q⟩
 obtain ⟨kvs, e1, e⟩ := Zo e
 split at e
 ·rename_i k _
  obtain ⟨rfl, rfl⟩ := Prod.mk.inj (Option.some.inj e)
  obtain ⟨n, rfl, hn⟩ := Zqf e1
  obtain ⟨a, rfl, ha⟩ := Zau.mp r2
  simp at r1
  subst r1
  obtain ⟨tok, rfl⟩ := rx
  cases ry
  obtain ⟨h1, xs, P, dd⟩ := Zup I (hr.obj n a _ ha hn)
  refine wpAny_in_of (knd := Zsv X.prog X.w) (k := k) (Zky (k := k) (t := tok)) h1 dd.mapOf ?_
  have e3 : (valueAt xs k).isSome = (Zj6 kvs k).isSome := by
   rcases Zri P k with ⟨z1, z2⟩ | ⟨_, _, _, z1, z2, _⟩ <;> rw [z1, z2] <;> rfl
  rw [e3]
  exact ⟨.bl _, H, I.tok _, rfl, q _ H ι Le.refl hr (by simp)⟩
 ·cases e
end
end DL
namespace L2
open PySem PySem.Spec PyProof.Rows
theorem Zcg.here {P : Program} {w : World} {H : Hp} {h : Heap} {a : Addr} {o : HO} (x : Zcg P w H h a o) : ∃ ob, h.get? a = some ob := by
 cases o with
 | lst xs => obtain ⟨_, its, n, _, e⟩ := x; exact ⟨_, e⟩
 | tup xs => obtain ⟨_, its, _, ob, e, _⟩ := x; exact ⟨_, e⟩
 | dK kvs => obtain ⟨_, _, vs, _, ob, es, ep, e, _⟩ := x; exact ⟨_, e⟩
 | dT kvs => obtain ⟨_, _, xs, _, ob, es, ep, e, _⟩ := x; exact ⟨_, e⟩
 | set S n => obtain ⟨ob, es, ep, t, e, _⟩ := x; exact ⟨_, e⟩
 | ins C dx fs => obtain ⟨_, _, _, e, _⟩ := x; exact ⟨_, e⟩
 | own y => obtain ⟨ob, e⟩ := x; exact ⟨_, e⟩
 | xd fs => obtain ⟨mA, ⟨od, es, ep, e, _⟩, _⟩ := x; exact ⟨_, e⟩
 | rng lo hi => obtain ⟨t, u, v, e⟩ := x; exact ⟨_, e⟩
 | frz ob u => obtain ⟨e, _⟩ := x; exact ⟨_, e⟩
 | tbl ps => exact ⟨_, x⟩
 | met f y => exact ⟨_, x⟩
 | ext φ => obtain ⟨_, e, _⟩ := x; exact e
end L2
namespace DL
open PySem PySem.Spec PyProof.Rows L2 PySem.W
structure ExcT (K : PySem.W.Frag) (mg : Str -> Option Value) (x : Str) (C : Addr) : Prop where
 bound : mg x = some (.ref C)
 kp : PySem.W.keepIn K (.ref C) = true
 inK : ∃ (bm : List Value) (B newId initId : String), PySem.W.excIn K C bm newId = true ∧ ExcBaseFacts B newId initId bm
theorem Yav {K : PySem.W.Frag} {h : Heap} {mg : Str -> Option Value} {x : Str} {C : Addr} {bmB : List Value} {newId : String} (X : K.In h) (e : mg x = some (.ref C)) (q : PySem.W.excIn K C bmB newId = true) : OwnCls x C bmB newId mg h := by
 have z := q
 unfold PySem.W.excIn at z
 split at z <;> try cases z
 rename_i d1 c1 l1 look
 split at z <;> try cases z
 rename_i D tl s0 s1 s2 s3 nid s5 e1 e2
 rw [Bool.and_eq_true, Bool.and_eq_true, Bool.and_eq_true, Bool.and_eq_true, Bool.and_eq_true] at z
 obtain ⟨⟨⟨⟨⟨a1, a2⟩, a3⟩, a4⟩, a5⟩, a6⟩ := z
 have a1 : D = C := beq_iff_eq.mp a1
 have a2 : nid = newId := beq_iff_eq.mp a2
 have a6 := beq_iff_eq.mp a6
 subst a1 a2
 have here := X _ _ look
 have a7 : l1 = #[s0, s1, s2, s3, some (.builtin nid), s5] := by rw [← e2]
 have a8 : c1.hasDel = false := by simpa using a3
 subst a7
 refine ⟨e, tl, c1.ns, c1.name, c1.qualname, c1.bases, c1.hasDict, c1.slotNames, c1.subclasses, c1.abstract, c1.collection, d1, s0, s1, s2, s3, s5, _, ?_, .of_isNs (isNs_of_in X a5), nsMap_none_of_in X a5 a6, tail_of_in X a4⟩
 rw [here]
 unfold excClassObj
 rw [← e1, ← a8]
theorem Zlc {P : Program} {w : World} {l : List Env} {H H1 : Hp} {h0 h1 h2 B : Heap} (u : Un (frs l) [] H H1 h0 h1) (ok : HOk P w H1 h1) (bo : ∀ b o, h0.get? b = some o -> b ∉ frs l -> ∃ o', B.get? b = some o' ∧ (H b = none -> o' = o)) (bt : ∀ b ho, H1 b = some ho -> ∃ o, h1.get? b = some o ∧ B.get? b = some o)
  (st : B.StaysIn h2) (up : h1.UpToSlots h2) (ff : h1.FunFrames B l) : Un (frs l) [] H H1 h0 h2 ∧ HOk P w H1 h2 := by
 have fram : ∀ b o, b ∈ frs l -> h1.get? b = some o -> ∃ sl, h2.get? b = some { o with slots := sl } := fun b o z eb => by
  obtain ⟨_, o', g1, g3⟩ := ff.mem z
  rw [eb] at g1
  cases g1
  exact up b o eb g3
 refine ⟨⟨fun b o e n nb _ => ?_, fun b o e n hb hx => ?_, u.free, fun b o e hx => ?_, u.tups, u.frzs, u.tbls⟩, fun b ho e => ?_⟩
 ·obtain ⟨o', g, z⟩ := bo b o e nb
  rw [z n] at g
  exact st b o g
 ·obtain ⟨sl, g⟩ := u.slot b o e n hb hx
  obtain ⟨sl', g'⟩ := fram b _ hb g
  exact ⟨sl', g'⟩
 ·by_cases z : b ∈ frs l
  ·obtain ⟨o1, g⟩ := u.there b o e hx
   obtain ⟨sl, g'⟩ := fram b o1 z g
   exact ⟨_, g'⟩
  ·obtain ⟨o', g, _⟩ := bo b o e z
   exact ⟨o', st b o' g⟩
 ·refine (ok b ho e).stay (fun c v hc g => ?_) (fun _ z => z) (fun _ _ z => z)
  have tk : ∃ hc, H1 c = some hc := by
   rcases hc with rfl | hc
   ·exact ⟨_, e⟩
   ·exact ⟨_, hc⟩
  obtain ⟨hc', tk⟩ := tk
  obtain ⟨o, g1, g2⟩ := bt c hc' tk
  rw [g] at g1
  cases g1
  exact st c v g2
section
variable {X : Cx} {C : Addr} {st : Stmt} {sts : List Stmt} {e c : Expr} {pos np cpos : Pos} {x : Str}
theorem Zy5 : PSs X sts fun _ _ _ => False := fun _ _ _ _ _ _ h => h.elim
end
end DL
namespace L2
open PySem PySem.Spec PyProof.Rows
theorem Zxm {X : Cx} {pins : List (Addr × Obj)} {σ : St} {H : Hp} {s : Shared} {M : Model} {A : Around} {E : Value -> Shared -> Prop} {i : Nat} {x : Str} {pos : Pos} {Q : Unit -> Shared -> Prop} (I : Inv X pins σ H s) (hN : X.N.Nodup) (hi : X.N[i]? = some x) (hl : X.env.kindOf x = some .local)
  (h : ∀ s', Inv X pins (σ.set i none) H s' -> Q () s') : wpAny M A (do bindName X.env x .none; unbindBehindTheSuite X.env x pos) Q E s := by
 obtain ⟨m, hn, hv⟩ := id I.loc
 refine wpAny_nameGoes_keeps hl hn (by rw [I.ok.kind]; rfl) fun h' v hn' hs => h _ ?_
 have old : ∀ b o, X.s₀.heap.get? b = some o -> b ≠ X.env.locals := fun b o e => Nat.ne_of_lt (Nat.lt_of_lt_of_le (Heap.lt_size e) I.ok.above)
 have tr : ∀ b ho, H b = some ho -> b ≠ X.env.locals := fun b ho e z => by rw [z, I.free] at e; cases e
 refine ⟨I.ok, I.os, I.bare, ⟨fun b o e n hb hx => (hs.2 b (old b o e)).trans (I.base.keep b o e n hb hx), fun b o e n hb hx => ?_, I.base.free, fun b o e hx => ?_, I.base.tups, I.base.frzs, I.base.tbls⟩, ⟨_, hn', fun j y w e1 e2 e3 => ?_⟩, fun y c e => ?_, I.free, I.freeC, fun p hp => ?_, fun b ho e => ?_, by simpa using I.len⟩
 ·obtain ⟨sl, g⟩ := I.base.slot b o e n hb hx
  exact ⟨sl, (hs.2 b (old b o e)).trans g⟩
 ·obtain ⟨o', g⟩ := I.base.there b o e hx
  exact ⟨o', (hs.2 b (old b o e)).trans g⟩
 ·by_cases hj : j = i
  ·subst hj
   rw [List.getElem?_set] at e2
   split at e2
   ·split at e2 <;> cases e2
   ·rename_i z; exact absurd rfl z
  ·rw [List.getElem?_set_ne (Ne.symm hj)] at e2
   obtain ⟨u, r, q⟩ := hv j y w e1 e2 e3
   refine ⟨u, r, ?_⟩
   rcases q with ⟨k, z⟩ | ⟨k, c, z, g⟩
   ·have ne : y ≠ x := fun z => hj (Zjb hN e1 (z ▸ hi))
    exact .inl ⟨k, (if_neg ne).trans z⟩
   ·exact .inr ⟨k, c, z, g.sameBut hs (I.cne y c z)⟩
 ·obtain ⟨w, g⟩ := I.cell y c e
  exact ⟨w, g.sameBut hs (I.cne y c e)⟩
 ·obtain ⟨e, n, ne, nf, d⟩ := I.pin p hp
  exact ⟨(hs.2 p.1 ne).trans e, n, ne, nf, d⟩
 ·refine (I.hok b ho e).stay (fun c u hc g => (hs.2 c ?_).trans g) (fun _ z => z) (fun _ _ z => z)
  rcases hc with rfl | hc
  ·exact tr _ _ e
  ·exact tr _ _ hc
end L2
namespace DL
open PySem PySem.Spec PyProof.Rows L2 PySem.W
noncomputable abbrev Xh (X : Cx) (ex : Addr) (oe : Obj) : Cx := { X with A := X.A.mark (some (.ref ex)), calm := false, pn := (ex, oe) :: X.pn, xe := fun _ _ => False }
theorem Inv.marked {X : Cx} {pins : List (Addr × Obj)} {σ : L2.St} {H : Hp} {s : Shared} {ex : Addr} {oe : Obj} (I : Inv X pins σ H s) (g : s.heap.get? ex = some oe) (n : H ex = none) (ne : ex ≠ X.env.locals) (nf : ex ∉ X.fs) (nc : ∀ v, oe.data ≠ .cell v) : Inv (Xh X ex oe) pins σ H s := by
 obtain ⟨o1, o2, o3, o4, o5, o6, o7, o8, o9, o10, o11, o12, o13, o14, o15, o16, o17, o18⟩ := I.ok
 refine ⟨⟨o1, o2, o3, o4, o5, o6, o7, o8, (fun z => by cases z), o10, o11, o12, o13, o14, o15, o16, o17, o18⟩, I.os, I.bare, I.base, I.loc, I.cell, I.free, I.freeC, fun p hp => ?_, I.hok, I.len⟩
 rcases List.mem_cons.mp (show p ∈ (ex, oe) :: (X.pn ++ pins) from hp) with rfl | hp
 ·exact ⟨g, n, ne, nf, nc⟩
 ·exact I.pin p hp
theorem Inv.unmark {X : Cx} {pins : List (Addr × Obj)} {σ : L2.St} {H : Hp} {s : Shared} {ex : Addr} {oe : Obj} (ok : X.Ok) (I : Inv (Xh X ex oe) pins σ H s) : Inv X pins σ H s :=
 ⟨ok, I.os, I.bare, I.base, I.loc, I.cell, I.free, I.freeC, fun p hp => I.pin p (List.mem_cons_of_mem _ hp), I.hok, I.len⟩
structure ExcL (K : PySem.W.Frag) (C : Addr) : Prop where
 ga : findIn K (.ref C) "__getattribute__" = some (some (.builtin "BaseException.__getattribute__"))
 gr : findIn K (.ref C) "__getattr__" = some none
 cl : findIn K (.ref C) "__class__" = some (some (.builtin "object.__class__"))
 gt : specialIn K (.builtin "object.__class__") "__get__" = some (some (.builtin "getset_descriptor.__get__"))
 tk : takesIn K (.builtin "object.__class__") = some true
 mr : mroIn K C (.type "object") = some true
 sb : subIn K (.ref C) (.type "BaseException") = some true
 cs : (clsIn K C).isSome = true
section
variable {prog : Program} {w : World} {A : Around} {E : Value -> Shared -> Prop} {s : Shared} {K : PySem.W.Frag} {x C : Addr} {ox : Obj}
structure ExcO (h : Heap) (x : Addr) (ox : Obj) (C : Addr) : Prop where
 at_ : h.get? x = some ox
 cls : ox.cls = .ref C
theorem ExcO.type {M : Model} {h : Heap} (I : ExcO h x ox C) : Looks M h (typeOf (.ref x)) (.ref C) := by rw [← I.cls]; exact (Looks.ld I.at_).andThen .now
theorem Zsu {M : Model} {h : Heap} (L : ExcL K C) (X : K.In h) : Looks M h (Builtin.ObjectAttr.find (.ref x) (.ref C) "__class__") (.bind (.builtin "getset_descriptor.__get__") (.builtin "object.__class__")) := by
 have a1 := looks_findIn (M := M) X L.cl
 have a2 := looks_specialIn (M := M) X L.gt
 have a3 := looks_takesIn (M := M) X L.tk
 unfold Builtin.ObjectAttr.find
 refine a1.andThen ?_
 refine Looks.andThen (t := Builtin.ObjectAttr.getOf (some (.builtin "object.__class__"))) a2 ?_
 refine Looks.andThen (t := Builtin.ObjectAttr.dataDescriptor? (some (.builtin "object.__class__")) (some (.builtin "getset_descriptor.__get__"))) (a := some (.builtin "getset_descriptor.__get__", .builtin "object.__class__")) ?_ (Looks.tag .now)
 unfold Builtin.ObjectAttr.dataDescriptor?
 exact a3.andThen .now
theorem Zxo {R : Result → Shared → Prop} {tp : Value} (X : K.In s.heap) (I : ExcO s.heap x ox C) (hm : mroIn K C (.type "object") = some true) (z : R (.ok (.ret (.ref C))) s) : codeAny (model prog w) A (.call (.builtin "getset_descriptor.__get__") ⟨[.builtin "object.__class__", .ref x, tp], []⟩) R s := by
 obtain ⟨h1, g1, d1, t1, o1⟩ := s
 have a0 := I.type (M := model prog w)
 have a1 := looks_mroIn (M := model prog w) X hm
 refine codeAny_call_builtin KF.slot_gs.plain KF.entry_gs ?_
 refine KF.slot_gs.check _ _ _ _ _ _ _ _ KF.type_class (KF.args_gs _ _ _) ?_
 (unfold Builtin.«getset_descriptor.__get__» Builtin.Getset_descriptor.descrGet; rw [dga_obj]; refine wpAny_bind (wpAny_pure ?_); unfold Builtin.Getset_descriptor.descrGetter Builtin.Getset_descriptor.descrCheckInstance Builtin.Getset_descriptor.descrNameAndClass isInstance; simp only [KF.owner_class]; repeat lk)
 have e1 := KF.entry_class
 refine ⟨Code.quiet_builtin _ (by decide +kernel), codeAny_builtin e1 ?_⟩
 (unfold Builtin.«object.__class__» shownTypeOf; repeat lk); exact z
theorem Zrv {Q : Option Value → Shared → Prop} (L : ExcL K C) (X : K.In s.heap) (I : ExcO s.heap x ox C) (q : Q (some (.ref C)) { s with toks := s.toks + 1 }) : wpAny (model prog w) A (getAttr? (.ref x) "__class__") Q E s := by
 obtain ⟨hh, g, d, t, os⟩ := s
 have L0 := I.type (M := model prog w)
 have L1 := looks_findIn (M := model prog w) X L.ga
 have L2 := looks_findIn (M := model prog w) X L.gr
 have LF := Zsu (x := x) (M := model prog w) L X
 have LS := looks_subIn (M := model prog w) X L.sb
 unfold getAttr? getAttrBy? getAttrBy
 refine wpAny_bind (wpAny_mkText (wpAny_bind (wpAny_attempt (wpAny_holding (wpAny_bind (L0.at (wpAny_bind (L1.at ?_))))))))
 show wpAny _ _ (if (onTheHeap (Value.ref C) && (Value.builtin "BaseException.__getattribute__" == Value.builtin "object.__getattribute__")) = true then _ else _) _ _ _
 have n2 : (Value.builtin "BaseException.__getattribute__" == Value.builtin "object.__getattribute__") = false := by decide +kernel
 rw [if_neg (by rw [n2, Bool.and_false]; exact Bool.false_ne_true)]
 unfold getAttrByItsOwn hookBefore
 rw [if_pos (by rfl)]
 refine wpAny_bind (L2.at (wpAny_bind (wpAny_attempt (wpAny_holding ?_))))
 unfold callGetattribute
 rw [if_neg (by exact Bool.false_ne_true)]
 unfold boundAndCalled
 have LI : Looks (model prog w) hh (isInstance (.ref x) (.type "BaseException")) true := L0.andThen LS
 rw [PySem.F.attr_ValueError.ga.bind (.ref x)]
 refine wpAny_bind (wpAny_pure ?_)
 show wpAny _ _ (call (.builtin "BaseException.__getattribute__") [.ref x, .str (Str.ofString "__class__") t]) _ _ _
 refine wpAny_call (codeAny_call_builtin PySem.F.attr_ValueError.ga.plain PySem.F.entry_bexc_ga ?_)
 have b1 : builtinKind "BaseException.__getattribute__" = some .slot := by decide +kernel
 have b2 : splitId "BaseException.__getattribute__" = some ("BaseException", "__getattribute__") := by decide +kernel
 have b3 := PySem.F.args_bexc_ga (.ref x) (.str (Str.ofString "__class__") t)
 simp only [checkBuiltinCall, b1, b2]
 refine wpAny_bind (LI.at ?_)
 repeat (first | (with_reducible refine L0.at ?_) | (with_reducible refine LF.at ?_) | wp_step)
 exact Zxo (ox := ox) X I L.mr (wpAny_pure (handed_on rfl (wpAny_pure q)))
theorem Zpp (L : ExcL K C) : ∃ c dd cd sl, K.lookup C = some ⟨c, dd, .cls cd, sl⟩ := by
 have z := L.cs
 unfold clsIn at z
 split at z
 ·rename_i e; exact ⟨_, _, _, _, e⟩
 ·cases z
theorem Zi8 (L : ExcL K C) : KitX K (.ref x) (.ref C) (fun h => ExcO h x ox C) where
 ty := fun _ _ _ I => I.type
 it := fun M h X _ => by
  obtain ⟨c, dd, cd, sl, e⟩ := Zpp L
  intro A1 Q1 E1 s1 kp z
  show wpAny M A1 (isType (.ref C)) Q1 E1 s1
  unfold isType loadHead
  refine wpAny_bind (wpAny_loadPart (kp C _ (X C _ e)) ?_)
  exact wpAny_pure z
 ne := fun h tp dd its n sl X g => by
  obtain ⟨c, d1, cd, s1, e⟩ := Zpp L
  cases z : (Value.ref C == Value.ref tp) with
  | false => rfl
  | true =>
   have y : C = tp := Value.ref.inj (beq_iff_eq.mp z)
   subst y
   have y := X C _ e
   rw [g] at y
   cases y
 ca := fun X I z => Zrv L X I z
end
theorem Zzi {x : V} {r : List V} {l : List Value} (h : Zbt (x :: r) l) : ∃ b t, l = b :: t ∧ Zb2 x b ∧ Zbt r t := by
 cases h with
 | cons p P => exact ⟨_, _, rfl, p, P⟩
section
variable {X : Cx}
theorem Zqh : ∀ {cs : List Addr} {its : List Value}, Zbt (cs.map .ref) its -> its = cs.map .ref := by
 intro cs
 induction cs with
 | nil => intro its rv; cases rv; rfl
 | cons a r ih =>
  intro its rv
  obtain ⟨b, t, rfl, p1, p2⟩ := Zzi rv
  have p1 : b = Value.ref a := p1
  rw [p1, ih p2]; rfl
theorem Zqm {ex C : Addr} {oe : Obj} {c : V} {cV : Value} {b : Bool} (L : ExcL X.K C) (hc : oe.cls = .ref C) (hu : ∀ u, Zb2 c u -> u = cV) (e : kitOne X.K (.ref C) cV = some b) :
  Zf1 (Xh X ex oe) (.builtin "isinstance") (fun xs H Q => xs = [.ref ex, c] ∧ Q (.bl b) H) := by
 rintro pins s σ H xs us Q I r ⟨rfl, q⟩
 obtain ⟨u1, u2, rfl, r1, r2⟩ := Zn7 r
 have e1 : u1 = .ref ex := r1
 subst e1
 obtain rfl := hu u2 r2
 have pn := I.pin (ex, oe) (List.mem_append_left _ (List.mem_cons_self ..))
 exact kia_one (Zi8 (ox := oe) (x := ex) L) I.kIn ⟨pn.1, hc⟩ e (by rintro z; cases z) fun tk => ⟨.bl b, H, I.tok tk, rfl, q⟩
theorem Zwc {ex C : Addr} {oe : Obj} {cs : List Addr} {b : Bool} (L : ExcL X.K C) (hc : oe.cls = .ref C) (e : kitAny X.K (.ref C) (cs.map .ref) = some b) :
  Zf1 (Xh X ex oe) (.builtin "isinstance") (fun xs H Q => ∃ p, xs = [.ref ex, .ref p] ∧ H p = some (.tup (cs.map .ref)) ∧ Q (.bl b) H) := by
 rintro pins s σ H xs us Q I r ⟨p, rfl, hp, q⟩
 obtain ⟨u1, u2, rfl, r1, r2⟩ := Zn7 r
 have e1 : u1 = .ref ex := r1
 have e2 : u2 = .ref p := r2
 subst e1 e2
 have pn := I.pin (ex, oe) (List.mem_append_left _ (List.mem_cons_self ..))
 obtain ⟨_, its, rv, o, g, c1, ⟨n, d1⟩, _⟩ := I.hok p _ hp
 have ei := Zqh rv
 subst ei
 obtain ⟨oc, od, odd, os⟩ := o
 have c1 : oc = .type "tuple" := c1
 have d1 : odd = .seq (cs.map Value.ref).toArray n := d1
 subst c1 d1
 exact kia_tup (Zi8 (ox := oe) (x := ex) L) I.kIn ⟨pn.1, hc⟩ g e (by rintro z; cases z) fun tk => ⟨.bl b, H, I.tok tk, rfl, q⟩
noncomputable def Zqi (cs : List Addr) : TA := fun _ H Q => Q (cs.map .ref) H
theorem Zpc : PA X [] (Zqi []) := Zh6
theorem Zhq {x : Str} {c : Addr} {cs : List Addr} {es : List Expr} {p : Pos} (hg : Gl X x) (hm : X.mg x = some (.ref c)) (h : PA X es (Zqi cs)) (hd : (x == ("__debug__" : Str)) = false := by decide) (hs : starEach (.Name x p :: es) X.env = (false, eval (.Name x p) X.env) :: starEach es X.env := by rfl) : PA X (.Name x p :: es) (Zqi (c :: cs)) :=
 Zb4 (Zjh (v := .ref c) hg hm rfl hd) h hs
end
section
variable {X : Cx}
theorem Zzg {st : Stmt} {t : TS} (h : PS X.nox st t) : PS X st t := by
 intro pins s σ H D I q
 refine wpAny_mono (h pins s σ H D (I.wish _) q) (fun f s1 z => ?_) fun _ _ z => z.elim
 cases f with
 | next => obtain ⟨σ1, H1, I1, z⟩ := z; exact ⟨σ1, H1, I1.unwish, z⟩
 | brk => obtain ⟨σ1, H1, I1, z⟩ := z; exact ⟨σ1, H1, I1.unwish, z⟩
 | cont => obtain ⟨σ1, H1, I1, z⟩ := z; exact ⟨σ1, H1, I1.unwish, z⟩
 | ret u => obtain ⟨v, σ1, H1, I1, r, z⟩ := z; exact ⟨v, σ1, H1, I1.unwish, r, z⟩
theorem Zz0 {es : List Expr} {t : TA} (h : PA X.nox es t) : PA X es t := by
 intro pos pins s σ H Q I q
 refine wpAny_mono (h pos pins s σ H Q (I.wish _) q) (fun us s1 z => ?_) fun _ _ z => z.elim
 obtain ⟨vs, H1, I1, r, z⟩ := z
 exact ⟨vs, H1, I1.unwish, r, z⟩
end
theorem Zd3 {K : PySem.W.Frag} {hp : Heap} {mg : Str -> Option Value} {n : Str} {c : Addr} (X : K.In hp) (G : hp.Ns mainGlobals mg) (e : nsIn K mainGlobals n = some (some (.ref c))) : mg n = some (.ref c) := PySem.W.mg_of X G e
end DL
namespace DL
open PySem PySem.Spec PyProof.Rows L2
theorem Ztk (kvs : List (Int × D)) (k : Int) (v : D) : (Zr2 kvs k v).length ≤ kvs.length + 1 := by unfold Zr2; split <;> simp
noncomputable def Zrl : Zx3 := fun o i v H => match o, i with
 | .ref n, .int k => match H[n]? with
  | some (.dci kvs) => if kvs.length < sizeLine then some (H.set n (.dci (Zr2 kvs k v))) else none
  | _ => none
 | _, _ => none
section
variable {X : Cx}
theorem isetf : Ya1 X Zrl := by
 rintro pins s σ H o i v ov iv u Q I ro ri rv ⟨ι, od, id, vd, Hd, Hd', hr, r1, r2, r3, e, q⟩
 have hx : ∃ n k kvs, od = .ref n ∧ id = .int k ∧ Hd[n]? = some (.dci kvs) ∧ kvs.length < sizeLine ∧ Hd' = Hd.set n (.dci (Zr2 kvs k vd)) := by
  unfold Zrl at e
  split at e
  ·rename_i n k
   split at e
   ·rename_i kvs hn
    split at e
    ·rename_i hl; cases e; exact ⟨n, k, kvs, rfl, rfl, hn, hl, rfl⟩
    ·cases e
   ·cases e
  ·cases e
 obtain ⟨n, k, kvs, rfl, rfl, hn, hl, rfl⟩ := hx
 obtain ⟨a, rfl, ha⟩ := Zau.mp r1
 have r2 : i = .int k := by simpa using r2
 subst r2
 cases ro
 obtain ⟨tk, rfl⟩ := ri
 obtain ⟨h1, h2, xs, h3, P⟩ := hr.obj n a _ ha hn
 have dd : Zd5 a xs s.heap := ((show Zcg X.prog X.w H s.heap a (.ext (Zd5 a xs)) from I.hok a _ h3)).1
 have hz : xs.length ≤ sizeLine := by rw [← Prd.len P]; exact h2
 refine wpAny_setItem_pairs (knd := Zsv X.prog X.w) (k := k) (hsz := hz) (Zky (k := k) (t := tk)) (dd X.prog X.w) fun h' dd' hs => ?_
 have L : Le X.K H ι (upd H a (.ext (Zd5 a (stored xs k u)))) ι := Le.upd (List.mem_of_getElem? ha) h3 trivial _
 have dA : Zd5 a (stored xs k u) h' := Zn9 dd'
 obtain ⟨ob, es, ep, g1, _⟩ := id dd'
 have ok : Zcg X.prog X.w (upd H a (.ext (Zd5 a (stored xs k u)))) h' a (.ext (Zd5 a (stored xs k u))) := ⟨dA, ⟨ob, g1⟩, fun h1 h2 d k => Zd5.keep d k⟩
 have hr' : HRep X.K (upd H a (.ext (Zd5 a (stored xs k u)))) ι (Hd.set n (.dci (Zr2 kvs k vd))) := by
  refine hr.upd ha h3 trivial ⟨h1, ?_, _, upd_same, ?_⟩
  ·have := Ztk kvs k vd; omega
  ·exact Zsf (Prd.imp P fun p x _ z => ⟨z.1, let ⟨v, z1, z2⟩ := z.2; ⟨v, z1, z2.mono L⟩⟩) rv (r3.mono L)
 exact ⟨_, I.write (x := a) (e := a) (by rw [h3]; exact True.intro) (.inl rfl) (fun b q hb z => (hs.2 b hb).trans z) ⟨ob, g1⟩ ok, q _ ι L hr'⟩
noncomputable def eDI : EF := fun _ H => some (.ref H.length, H ++ [.dci []])
theorem Zro {pos : Pos} : PEf X (.Dict [] [] pos) eDI := by
 rintro pins s σ H Q I ⟨ι, σd, Hd, d, Hd', sr, hr, e, q⟩
 cases e
 have hb : sysModules < s.heap.objs.size := Nat.lt_trans (by decide) (show mainGlobals < s.heap.objs.size from (I.mod.glob.keeps I.bk).lt)
 have hp := I.hok.fresh (Nat.le_refl s.heap.objs.size)
 have dn : Zd5 s.heap.objs.size [] (s.heap.push { cls := .type "dict", data := .dict #[] }) := fun p w => Heap.DictOf.new (knd := Zsv p w) s.heap
 have ok : Zcg X.prog X.w (upd H s.heap.objs.size (.ext (Zd5 s.heap.objs.size []))) (s.heap.push { cls := .type "dict", data := .dict #[] }) s.heap.objs.size (.ext (Zd5 s.heap.objs.size [])) := ⟨dn, ⟨_, Heap.get?_push_size _ rfl⟩, fun h1 h2 d k => Zd5.keep d k⟩
 refine wpAny_Dict_empty ⟨.ref s.heap.objs.size, _, I.laid (a := s.heap.objs.size) (o := .ext (Zd5 s.heap.objs.size [])) (t' := s.toks) (fun _ _ q => Heap.get?_push_of_some _ q) (Nat.le_refl _) ok, rfl, ?_⟩
 have hl : ι.length = Hd.length := hr.len
 exact q _ _ (ι ++ [s.heap.objs.size]) (Le.fresh1 hp _) (hr.new hp ⟨beq_eq_false_iff_ne.mpr (Ne.symm (Nat.ne_of_lt hb)), Nat.zero_le _, [], upd_same, .nil⟩) (Zau.mpr ⟨_, rfl, by rw [← hl]; simp⟩)
end
open PySem.W (KasT kas_rev kas_asc kas_desc kas_tail3 kas_descPart kas_count kas_place kas_bin kas_sort)
section
variable {n : Nat}
variable (h0 : 0 < n)
include h0
end
open PySem.W (KdlSrc)
noncomputable def Zw9 (d : Addr) (es : Array DictEntry) (ep : Nat) (h : Heap) : Prop := (d == sysModules) = false ∧ ∃ o, h.get? d = some o ∧ o.ExactDict ∧ o.data = .dict es ep
theorem Zw9.mv {d : Addr} {es : Array DictEntry} {ep : Nat} {h h' : Heap} (x : Zw9 d es ep h) (k : ∀ o, h.get? d = some o -> h'.get? d = some o) : Zw9 d es ep h' := let ⟨a, o, e, r⟩ := x; ⟨a, o, k o e, r⟩
section
variable {prog : Program} {w : World} {A : Around} {E : Value -> Shared -> Prop} {s : Shared}
theorem Ztn (hh : A.handled = none) (I d : Addr) (ne : d ≠ I) (es : Array DictEntry) (ep : Nat) :
  Walks prog w A I [I, d] [I] es.size (fun i v => ∃ e, es[i]? = some e ∧ v = e.key) (fun i h => h.IsKeyIter I d i es.size ep ∧ Zw9 d es ep h) where
 sub := fun b hb => by simp at hb; simp [hb]
 frame := fun _ _ _ st hk => ⟨st.1.at fun o e => hk I (by simp) o e, st.2.mv fun o e => hk d (by simp) o e⟩
 item := fun i s _ _ hi st hQ => by
  obtain ⟨_, ob, g1, g2, g3⟩ := st.2
  refine Zxi st.1 g1 g3 hi fun h' hit' hs' => ?_
  exact hQ _ h' s.toks ⟨es[i], by simp [hi], rfl⟩ ⟨hit', st.2.mv fun o e => hs'.extBut d o ne e⟩ fun b o hb e => hs'.extBut b o (fun h => hb (by simp [h])) e
 done := fun s Q E st hQ => by
  obtain ⟨_, ob, g1, g2, g3⟩ := st.2
  exact Zse hh st.1 g1 g3 (Nat.le_refl _) fun h' he' => hQ h' s.toks fun b o hb e => he' b o (fun h => hb (by simp [h])) e
 self := fun _ _ _ _ st r => wpAny_pyIter_keyiter st.1 r
theorem Zyr {d : Addr} {es : Array DictEntry} {ep : Nat} : KdlSrc prog w "dict" d d es.size (fun i v => ∃ e, es[i]? = some e ∧ v = e.key) (Zw9 d es ep) where
 type := fun _ ⟨_, o, e, x, _⟩ => ⟨o, e, x.1⟩
 there := fun _ ⟨_, o, e, _⟩ => ⟨Heap.lt_size e, Heap.lt_size e⟩
 keep := fun _ _ x k => x.mv fun o e => k d (.inl rfl) o e
 notList := by decide
 notTuple := by decide
 hint := fun _ _ _ _ ⟨_, o, e, x, _⟩ r => PySem.W.kdl_hint_dict ⟨o, e, x.1⟩ r
 iter := fun _ s hh x => by
  obtain ⟨h0, ob, g1, g2, g3⟩ := id x
  exact ⟨_, _, (fun _ _ hq => Zta h0 g1 g2 g3 hq), Ztn hh _ d (Nat.ne_of_lt (Heap.lt_size g1)) es ep, ⟨⟨_, Heap.get?_push_size _ rfl, rfl, rfl⟩, x.mv fun o e => Heap.get?_push_of_some _ e⟩⟩
theorem Zl5 {d : Addr} {es : Array DictEntry} {ep : Nat} {R : List Value -> Shared -> Prop} (hh : A.handled = none) (x : Zw9 d es ep s.heap) (hz : es.size ≤ sizeLine)
  (h : ∀ h' tk, (∀ b o, s.heap.get? b = some o -> h'.get? b = some o) -> s.heap.objs.size ≤ h'.objs.size -> R (es.toList.map (·.key)) { s with heap := h', toks := tk }) : wpAny (model prog w) A (collect (.ref d)) R E s := by
 have hN : (s.heap.push (seqObj "list" #[] 0)).get? s.heap.objs.size = some (seqObj "list" #[] 0) := Heap.get?_push_size _ rfl
 have dl : d < s.heap.objs.size := let ⟨_, _, e, _⟩ := x; Heap.lt_size e
 unfold collect
 refine wpAny_bind (wpAny_runValue (codeAny_builtin entry_proto_collect' (show wpAny _ _ (do again (.builtin "list.__iadd__" ⟨[← newList [], .ref d], []⟩)) _ _ s from wpAny_bind (wpAny_newList (wpAny_pure ⟨Code.quiet_builtin _ (by decide +kernel), codeAny_builtin entry_list_iadd' ?_⟩)))))
 show wpAny _ _ (Builtin.List.listExtendWith (.ref s.heap.objs.size) (.ref d) (.ref s.heap.objs.size)) _ _ { s with heap := s.heap.push (seqObj "list" #[] 0) }
 rw [Around.under_plainId (show plainId "list.__iadd__" = true by decide +kernel)]
 have E1 : wpAny (model prog w) A.in1 (Builtin.List.listExtendWith (.ref s.heap.objs.size) (.ref d) (.ref s.heap.objs.size)) _ _ { s with heap := s.heap.push (seqObj "list" #[] 0) } := PySem.W.kdl_extend (s := { s with heap := s.heap.push (seqObj "list" #[] 0) }) (R := fun r s' => r = .ok (.ret (.ref s.heap.objs.size)) ∧ wpAny (model prog w) A (load s.heap.objs.size) (fun o s2 => ∃ xs ep, o.data = .seq xs ep ∧ R xs.toList s2) E s') (Zyr (ep := ep)) hh (x.mv fun o e => Heap.get?_push_of_some _ e) s.heap.objs.size (Ne.symm (Nat.ne_of_lt dl)) (Ne.symm (Nat.ne_of_lt dl)) (.ref s.heap.objs.size) 0 hN (fun h' tk acc c k1 k2 hi => by
  have ea : acc.toList = es.toList.map (·.key) := by
   apply List.ext_getElem?
   intro i
   rw [List.getElem?_map, Array.getElem?_toList, Array.getElem?_toList]
   by_cases hl : i < es.size
   ·have la : i < acc.size := by rw [hi.1]; exact hl
    obtain ⟨e, e1, e2⟩ := hi.2 i acc[i] (Array.getElem?_eq_getElem la)
    rw [Array.getElem?_eq_getElem la, e1, e2]
    rfl
   ·rw [Array.getElem?_eq_none (by rw [hi.1]; omega), Array.getElem?_eq_none (by omega)]
    rfl
  refine ⟨rfl, wpAny_load k2 ⟨acc, c, rfl, ?_⟩⟩
  rw [ea]
  exact h h' tk (fun b o e => k1 b o (Nat.ne_of_lt (Heap.lt_size e)) (Heap.get?_push_of_some _ e)) (Nat.le_of_lt (Heap.lt_size k2))) hz
 have fin : ∀ s', wpAny (model prog w) A (load s.heap.objs.size) (fun o s2 => ∃ xs ep, o.data = .seq xs ep ∧ R xs.toList s2) E s' → wpAny (model prog w) A (do match (← load s.heap.objs.size).data with | .seq xs _ => pure xs.toList | _ => unsupported "internal:collect") R E s' := fun s' z => by
  refine wpAny_bind (wpAny_mono z (fun o s2 ⟨xs, ep, e1, e2⟩ => ?_) fun _ _ x => x)
  rw [e1]
  exact wpAny_pure e2
 refine wpAny_mono E1 (fun f s' z => ?_) (fun e s' z => ?_)
 ·cases f with
  | done f =>
   obtain ⟨z1, z2⟩ := z
   cases z1
   exact fin s' z2
  | again c =>
   refine ⟨z.1, codeAny_mono z.2 fun r s2 z => ?_⟩
   obtain ⟨rfl, z2⟩ := z
   exact fin s2 z2
 ·cases z.1
end
end DL
namespace DL
open PySem PySem.Spec PyProof.Rows L2 PySem.W
noncomputable def TrD (h B : Heap) (e : Addr) (C : Value) (dx : Option Addr) (fl : Value) : Prop :=
 ∃ oe vs T oT ts, (h.get? e = some oe ∧ oe.cls = C ∧ oe.dict = dx ∧ oe.data = .fields vs ∧ vs[1]? = some (.ref T)) ∧ B.get? T = none ∧ T ≠ e ∧ h.get? T = some oT ∧ oT.data = .fields ts ∧ ts[3]? = some fl
structure FlyD (B : Heap) (l : List Env) (e : Addr) (C : Value) (dx : Option Addr) (fl : Value) (h : Heap) : Prop where
 st : B.StaysIn h
 no : B.get? e = none
 ff : h.FunFrames B l
 tr : TrD h B e C dx fl
theorem FlyD.first {B : Heap} {l : List Env} {e : Addr} {C : Value} {dx : Option Addr} {fl : Value} {h : Heap} (x : FlyD B l e C dx fl h) : ∃ oe vs, h.get? e = some oe ∧ oe.cls = C ∧ oe.data = .fields vs ∧ oe.dict = dx := by
 obtain ⟨oe, vs, _, _, _, ⟨h1, h2, h3, h4, _⟩, _⟩ := x.tr
 exact ⟨oe, vs, h1, h2, h4, h3⟩
theorem FlyD.tail {B : Heap} {env : Env} {l : List Env} {e : Addr} {C : Value} {dx : Option Addr} {fl : Value} {h : Heap} (x : FlyD B (env :: l) e C dx fl h) : FlyD B l e C dx fl h := ⟨x.st, x.no, x.ff.2.2, x.tr⟩
theorem Zii (f : Array Value -> Array Value) (o : Obj) : (Obj.mapFields f o).dict = o.dict := by
 unfold Obj.mapFields
 split <;> rfl
section
variable {M : Model} {A : Around} {E : Value -> Shared -> Prop} {s : Shared} {B : Heap} {env : Env} {outer l : List Env} {L e : Addr} {C : Value} {dx : Option Addr} {fl : Value} {Q : Unit -> Shared -> Prop}
theorem Zos {oe : Obj} {vs : Array Value} {hd : Value} {nx : Bool} (hfr : A.frames = some (env :: outer)) (hf : env.frame = some L) (ff : s.heap.FunFrames B (env :: outer)) (st : B.StaysIn s.heap) (no : B.get? e = none)
  (he : s.heap.get? e = some oe) (hv : oe.data = .fields vs) (hz : 1 < vs.size) (q : ∀ h', FlyD B (env :: outer) e oe.cls oe.dict (rawInt L) h' -> s.heap.UpToSlots h' -> Q () { s with heap := h' }) :
  wpAny M A (frameOf env >>= fun a => entryPlaceOf L nx >>= fun pl => EntryCells.newEntry hd a .none (rawInt L) .none pl >>= fun b => setField (.ref e) 1 b) Q E s := by
 have nf : e ∉ (env :: outer).filterMap (·.frame) := fun z => by
  obtain ⟨_, o, g, n⟩ := ff.mem z
  rw [he] at g
  cases g
  exact n vs hv
 refine wpAny_bind (wpAny_frameOf_fun hfr ff hf fun h1 s1 => wpAny_bind (wpAny_entryPlaceOf fun pl hpl => ?_))
 unfold EntryCells.newEntry newFields
 refine wpAny_bind (wpAny_newObj_type ?_ (hpl.sizeOk5 _ _ _ _ _))
 obtain ⟨oT, hoT⟩ : ∃ o : Obj, o = { cls := .type "traceback", dict := none, data := .fields ([hd, .ref L, .none, rawInt L, .none] ++ (if pl.isEmpty then List.replicate 6 Value.none else pl)).toArray } := ⟨_, rfl⟩
 have e1 : h1.get? e = some oe := (s1.2.1 e nf).trans he
 have b1 : B.StaysIn h1 := fun b o z => (s1.2.1 b fun y => by rw [(ff.mem y).1] at z; cases z).trans (st b o z)
 rw [← hoT]
 have e2 := Heap.get?_push_of_some (h := h1) oT e1
 refine wpAny_setField e2 hv hz (q _ ?_ ?_)
 all_goals
  have nT : h1.objs.size ≠ e := Nat.ne_of_gt (Heap.lt_size e1)
  have v3 := Obj.data_mapFields hv (·.setIfInBounds 1 (Value.ref h1.objs.size))
  have e3 := Heap.get?_update_self (Obj.mapFields (·.setIfInBounds 1 (Value.ref h1.objs.size))) e2 (Obj.isFreed_of_fields v3)
  have lf : oT.isFreed = false := by rw [hoT]; rfl
  have t3 := (Heap.get?_update_other (h1.push oT) (Obj.mapFields (·.setIfInBounds 1 (Value.ref h1.objs.size))) (Ne.symm nT)).trans (Heap.get?_push_size h1 lf)
  have kp : ∀ b o, b ≠ e -> h1.get? b = some o -> ((h1.push oT).update e (Obj.mapFields (·.setIfInBounds 1 (Value.ref h1.objs.size)))).get? b = some o := fun b o n z => by
   rw [Heap.get?_update_other _ _ (Ne.symm n)]
   exact Heap.get?_push_of_some _ z
  have nr : ∀ b o, s.heap.get? b = some o -> (∀ vs, o.data ≠ .fields vs) -> b ≠ e := fun b o z n y => by
   rw [y, he] at z
   cases z
   exact n vs hv
 ·refine ⟨fun b o z => kp b o (fun y => by rw [y, no] at z; cases z) (b1 b o z), no, ff.of_keeps fun b o z n => ?_, ?_⟩
  ·obtain ⟨sl, g⟩ := s1.2.2 b o z
   exact ⟨_, kp b _ (nr b o z n) g, rfl⟩
  ·refine ⟨_, _, h1.objs.size, oT, _, ⟨e3, Obj.cls_mapFields _ _, Zii _ _, v3, by simp [hz]⟩, b1.fresh, nT, t3, by rw [hoT], ?_⟩
   first
   | (simp; done)
   | (rcases hpl with rfl | ⟨_, _, _, _, _, _, _, rfl⟩ <;> simp)
 ·intro b o z n
  obtain ⟨sl, g⟩ := s1.2.2 b o z
  exact ⟨sl, kp b _ (nr b o z n) g⟩
theorem Zw6 {oe : Obj} {vs : Array Value} (hfr : A.frames = some (env :: outer)) (hf : env.frame = some L) (ff : s.heap.FunFrames B (env :: outer)) (st : B.StaysIn s.heap) (no : B.get? e = none)
  (he : s.heap.get? e = some oe) (hv : oe.data = .fields vs) (h1 : vs[1]? = some .none) (q : ∀ h', FlyD B (env :: outer) e oe.cls oe.dict (rawInt L) h' -> s.heap.UpToSlots h' -> Q () { s with heap := h' }) : wpAny M A (noteFrame (.ref e) env) Q E s := by
 unfold noteFrame
 simp only [hf]
 refine wpAny_bind (wpAny_field he hv h1 ?_)
 rw [if_neg (by decide)]
 exact Zos hfr hf ff st no he hv (Array.getElem?_eq_some_iff.mp h1).1 q
theorem Zqq (hfr : A.frames = some (env :: outer)) (hf : env.frame = some L) (x : FlyD B (env :: outer) e C dx .none s.heap) (q : ∀ h', FlyD B (env :: outer) e C dx (rawInt L) h' -> s.heap.UpToSlots h' -> Q () { s with heap := h' }) : wpAny M A (noteFrame (.ref e) env) Q E s := by
 obtain ⟨oe, vs, T, oT, ts, ⟨g1, rfl, rfl, g4, g5⟩, k1, k2, k3, k4, k5⟩ := x.tr
 unfold noteFrame
 simp only [hf]
 refine wpAny_bind (wpAny_field g1 g4 g5 ?_)
 rw [if_pos (by simp)]
 refine wpAny_bind (wpAny_field k3 k4 k5 ?_)
 rw [if_neg (by simp [rawInt])]
 refine wpAny_bind (wpAny_setField k3 k4 (Array.getElem?_eq_some_iff.mp k5).1 ?_)
 have ot : ∀ b, b ≠ T -> (s.heap.update T (Obj.mapFields (·.setIfInBounds 3 Value.none))).get? b = s.heap.get? b := fun b n => Heap.get?_update_other _ _ (Ne.symm n)
 have nr : ∀ b o, s.heap.get? b = some o -> (∀ vs, o.data ≠ .fields vs) -> b ≠ T := fun b o z n y => by
  rw [y, k3] at z
  cases z
  exact n ts k4
 refine Zos hfr hf (x.ff.of_keeps fun b o z n => ⟨o, (ot b (nr b o z n)).trans z, rfl⟩) (fun b o z => (ot b fun y => by rw [y, k1] at z; cases z).trans (x.st b o z)) x.no ((ot e (Ne.symm k2)).trans g1) g4 (Array.getElem?_eq_some_iff.mp g5).1 fun h' y up => q h' y ?_
 exact fun b o z n => up b o ((ot b (nr b o z n)).trans z) n
theorem Zev (x : FlyD B l e C dx fl s.heap) (q : ∀ h', FlyD B l e C dx .none h' -> s.heap.UpToSlots h' -> Q () { s with heap := h' }) : wpAny M A (setFlight (.ref e) none) Q E s := by
 obtain ⟨oe, vs, T, oT, ts, ⟨g1, g2, g3, g4, g5⟩, k1, k2, k3, k4, k5⟩ := x.tr
 have sz := (Array.getElem?_eq_some_iff.mp k5).1
 have ot : ∀ b, b ≠ T -> (s.heap.update T (Obj.mapFields (·.setIfInBounds 3 ((none : Option Addr).elim Value.none fun f => rawInt f)))).get? b = s.heap.get? b := fun b n => Heap.get?_update_other _ _ (Ne.symm n)
 have nr : ∀ b o, s.heap.get? b = some o -> (∀ vs, o.data ≠ .fields vs) -> b ≠ T := fun b o z n y => by
  rw [y, k3] at z
  cases z
  exact n ts k4
 unfold setFlight
 refine wpAny_bind (wpAny_field g1 g4 g5 ?_)
 rw [if_pos (by simp)]
 have v3 := Obj.data_mapFields k4 (·.setIfInBounds 3 ((none : Option Addr).elim Value.none fun f => rawInt f))
 refine wpAny_setField k3 k4 sz (q _ ⟨fun b o z => (ot b fun y => by rw [y, k1] at z; cases z).trans (x.st b o z), x.no, x.ff.of_keeps fun b o z n => ⟨o, (ot b (nr b o z n)).trans z, rfl⟩, ?_⟩ fun b o z n => ⟨o.slots, (ot b (nr b o z n)).trans z⟩)
 exact ⟨oe, vs, T, _, _, ⟨(ot e (Ne.symm k2)).trans g1, g2, g3, g4, g5⟩, k1, k2, Heap.get?_update_self _ k3 (Obj.isFreed_of_fields v3), v3, by simp [sz]⟩
theorem Ztm {oe : Obj} {vs : Array Value} (hfr : A.frames = some (env :: outer)) (hf : env.frame = some L) (ff : s.heap.FunFrames B (env :: outer)) (st : B.StaysIn s.heap) (no : B.get? e = none)
  (he : s.heap.get? e = some oe) (hv : oe.data = .fields vs) (h1 : vs[1]? = some .none) (q : ∀ h', FlyD B outer e oe.cls oe.dict .none h' -> s.heap.UpToSlots h' -> Q () { s with heap := h' }) : wpAny M A (leaving env (.ref e)) Q E s := by
 unfold leaving
 refine wpAny_bind (Zw6 hfr hf ff st no he hv h1 fun h2 x u => ?_)
 exact Zev (s := { s with heap := h2 }) x fun h3 x3 u3 => q h3 x3.tail (u.trans u3)
theorem Zw5 (hfr : A.frames = some (env :: outer)) (hf : env.frame = some L) (x : FlyD B (env :: outer) e C dx .none s.heap) (q : ∀ h', FlyD B outer e C dx .none h' -> s.heap.UpToSlots h' -> Q () { s with heap := h' }) : wpAny M A (leaving env (.ref e)) Q E s := by
 unfold leaving
 refine wpAny_bind (Zqq hfr hf x fun h2 y u => ?_)
 exact Zev (s := { s with heap := h2 }) y fun h3 x3 u3 => q h3 x3.tail (u.trans u3)
end
noncomputable def vE : List Value := [.type "ValueError", .type "Exception", .type "BaseException", .type "object"]
noncomputable def Zsd (K : Frag) (C Cl : Addr) : Bool := match K.lookup C with
 | some ⟨.type "type", _, .cls c, l⟩ => (match l.toList with
  | [_, _, _, _, some (.builtin n), _] => n == "ValueError.__new__" && !c.hasDel && c.hasDict && c.mro == .ref C :: .ref Cl :: vE && tailIn K vE (.ref Cl :: vE)
  | _ => false)
 | _ => false
structure IniC (h : Heap) (C Cl : Addr) (c : ClassData) : Prop where
 obj : ∃ nm q N bs sn sub ab col dd k0 k1 k2 k3 k5, h.get? C = some (excClassObj nm q C N bs (.ref Cl :: vE) true sn sub ab col dd k0 k1 k2 k3 k5 "ValueError.__new__") ∧ c = { name := nm, bases := bs, mro := .ref C :: .ref Cl :: vE, ns := N, qualname := q, hasDict := true, slotNames := sn, subclasses := sub, abstract := ab, collection := col, hasDel := false }
 tail : OwnTail h vE (.ref Cl :: vE)
theorem Zh0 {K : Frag} {h : Heap} {C Cl : Addr} (X : K.In h) (q : Zsd K C Cl = true) : ∃ c, clsIn K C = some c ∧ IniC h C Cl c := by
 unfold Zsd at q
 split at q
 ·rename_i dd c l e
  split at q
  ·rename_i k0 k1 k2 k3 n k5 e2
   simp only [Bool.and_eq_true, beq_iff_eq, Bool.not_eq_true'] at q
   obtain ⟨⟨⟨⟨rfl, q2⟩, q3⟩, q4⟩, q5⟩ := q
   refine ⟨c, by unfold clsIn; rw [e], ?_, tail_of_in X q5⟩
   obtain ⟨nm, bs, mro, ns, qn, hd, sn, sub, ab, col, del⟩ := c
   dsimp only at q2 q3 q4
   subst q2 q3 q4
   obtain ⟨l⟩ := l
   simp only at e2
   subst e2
   exact ⟨nm, qn, ns, bs, sn, sub, ab, col, dd, k0, k1, k2, k3, k5, X _ _ e, rfl⟩
  ·cases q
 ·cases q
section
variable {prog : Program} {w : World} {A : Around} {R : Result -> Shared -> Prop} {h : Heap} {g : Array GenState} {d : Drawn} {t : Nat} {os : OsState} {C Cl fI : Addr} {c : ClassData} {rest : List Value}
noncomputable abbrev Zj1 (C : Addr) (dx : Option Addr) (t : Addr) : Obj := { cls := .ref C, dict := dx, data := .fields #[.ref t, .none, .none, .none, .bool false, .none] }
theorem Zxj (Y : IniC h C Cl c) (hi : Looks (model prog w) h (typeLookup (.ref C) "__init__") (some (.ref fI))) (hb : ∀ self, Looks (model prog w) h (bindSpecial (.ref fI) self) (.ref fI, [self])) (hr : rest.length ≤ sizeLine)
  (hq : codeAny (model prog w) (A.under (.builtin "type.__call__" ⟨.ref C :: rest, []⟩)) (.call (.ref fI) ⟨.ref (h.objs.size + 1) :: rest, []⟩) (InitBack (h.objs.size + 1) R) ⟨(h.push { cls := .type "tuple", data := .seq rest.toArray }).push (Zj1 C none h.objs.size), g, d, t, os⟩) :
  codeAny (model prog w) A (.call (.ref C) ⟨rest, []⟩) R ⟨h, g, d, t, os⟩ := by
 obtain ⟨nm, q, N, bs, sn, sub, ab, col, dd, k0, k1, k2, k3, k5, hC, rfl⟩ := Y.obj
 have T := Y.tail
 have F := PySem.F.excBase_ValueError
 have f1 := tc_lookup
 have f2 := tc_bind (.ref C)
 have hT : (⟨h, g, d, t, os⟩ : Shared).TypeIs (.ref C) "type" := ⟨_, hC, rfl⟩
 refine codeAny_of_tree ?_
 show wpAny _ _ (callAny (.ref C) _) _ _ _
 repeat (any_goals (first | assumption | with_reducible refine wpAny_loadPart_at hC ?_ | wp_step))
 refine ⟨rfl, codeAny_call_builtin_at (Code.quiet_builtin _ (by decide +kernel)) entry_typeCall (wpAny_check_type_call_sub hC ?_)⟩
 show wpAny _ _ (Builtin.«type.__call__» ⟨.ref C :: rest, []⟩) _ _ _
 repeat (first | with_reducible refine wpAny_loadPart_at hC ?_ | with_reducible refine wpAny_madeBy_exc hC ?_ | wp_step)
 refine codeAny_call_builtin_code (Code.quiet_builtin _ F.quiet) (wpAny_check_new_subT F T hC (codeAny_exc_new_subT F T hC ?_ hr))
 show wpAny _ _ _ _ _ _
 have k : ∀ b o, h.get? b = some o → ((h.push { cls := .type "tuple", data := .seq rest.toArray }).push (Zj1 C none h.objs.size)).get? b = some o := fun b o e => Heap.get?_push_of_some _ (Heap.get?_push_of_some _ e)
 have hC1 := k _ _ hC
 have hx : ((h.push { cls := .type "tuple", data := .seq rest.toArray }).push (Zj1 C none h.objs.size)).get? (h.objs.size + 1) = some { cls := .ref C, data := .fields #[.ref h.objs.size, .none, .none, .none, .bool false, .none] } := by heap_get
 have hcC : (Value.ref C :: Value.ref Cl :: vE).contains (.ref C) = true := by simp
 unfold isInstance
 repeat (first | with_reducible refine wpAny_loadPart_at hx ?_ | (with_reducible refine wpAny_isSubtype_exc hC1 ?_; rw [hcC]) | wp_step)
 show wpAny _ _ (typeLookup (.ref C) _) _ _ _
 refine (hi.keeps k).at ?_
 refine wpAny_holding (wpAny_bind (((hb _).keeps k).at ?_))
 refine wpAny_bind (wpAny_call (codeAny_mono hq fun r s' z => ?_))
 rcases r with e | (v | _ | _ | _) <;> first | exact z | exact z.elim | skip
 obtain ⟨rfl, z⟩ := z
 exact wpAny_pure (wpAny_pure z)
end
section
variable {prog : Program} {w : World} {A : Around} {E : Value -> Shared -> Prop} {s : Shared} {K : Frag} {C Cl e tt : Addr} {c : ClassData} {f : Str} {u : Value}
theorem Zv9 {Q : Value -> Shared -> Prop} (Y : IniC s.heap C Cl c) (he : s.heap.get? e = some (Zj1 C none tt))
  (q : ∀ h' t', (∀ b o, b ≠ e → s.heap.get? b = some o → h'.get? b = some o) → h'.get? e = some (Zj1 C none t') → Q .none { s with heap := h' }) : wpAny (model prog w) A (call (.builtin "ValueError.__init__") [.ref e, u]) Q E s := by
 obtain ⟨h, g, d, t, os⟩ := s
 obtain ⟨nm, qn, N, bs, sn, sub, ab, col, dd, k0, k1, k2, k3, k5, hC, rfl⟩ := Y.obj
 have F := PySem.F.excBase_ValueError
 have he' : h.get? e = some { cls := .ref C, data := .fields #[.ref tt, .none, .none, .none, .bool false, .none] } := he
 refine wpAny_call (codeAny_call_builtin F.init.plain F.initEntry (wpAny_check_init_subT F Y.tail hC he' rfl ?_))
 wp_walk
 refine q _ h.objs.size (fun b o n z => ?_) ?_
 ·rw [Heap.get?_update_other _ _ (Ne.symm n)]
  exact Heap.get?_push_of_some _ z
 ·rw [Heap.get?_update_self _ (Heap.get?_push_of_some _ he') rfl]
  rfl
theorem Zra (self : Value) (C Cl : Addr) : refuseLoop self "__setattr__" (.ref C :: .ref Cl :: vE) = pure () := by
 rw [refuseLoop_ref, refuseLoop_ref]
 unfold vE
 kernel_rfl
theorem Yag {Q : Unit → Shared → Prop} (X : K.In s.heap) (hc : clsIn K C = some c) (Y : IniC s.heap C Cl c) (he : s.heap.get? e = some (Zj1 C none tt)) (hs : findIn K (.ref C) "__setattr__" = some (some (.builtin "object.__setattr__"))) (hf : findIn K (.ref C) f = some none)
  (q : ∀ h' dx, s.heap.get? dx = none -> h'.get? e = some (Zj1 C (some dx) tt) -> h'.Ns1 dx (fun y => if y = f then some u else none) -> (∀ b o, b ≠ e -> s.heap.get? b = some o -> h'.get? b = some o) -> Q () { s with heap := h', toks := s.toks + 2 }) :
  wpAny (model prog w) A (setAttr (.ref e) f u) Q E s := by
 obtain ⟨nm, qn, N, bs, sn, sub, ab, col, dd, k0, k1, k2, k3, k5, hC, rfl⟩ := Y.obj
 have J : InstAt s.heap e (Zj1 C none tt) C none := ⟨he, rfl, rfl, True.intro⟩
 have hm : Looks (model prog w) s.heap (mroOf (.ref C)) (.ref C :: .ref Cl :: vE) := (looks_clsIn X hc).andThen .now
 have sb : Looks (model prog w) s.heap (isInstance (.ref e) (.type "object")) true := J.type.andThen (looks_mroIn X (by unfold mroIn; rw [hc, Zb, if_neg (by simp)]; rfl))
 have SF := PySem.F.store_object
 refine set_plain X J hs (codeAny_call_builtin SF.slot.plain SF.entry (@check_slot (model prog w) _ _ { s with toks := s.toks + 1 } "object.__setattr__" "object" "__setattr__" (.ref e) [.str f s.toks, u] [] _ SF.kind SF.split sb (SF.args (.ref e) (.str f s.toks) u) ?_))
 rw [osa_eq, refuse_eq]
 refine wpAny_bind (wpAny_bind (J.type.here (s := { s with toks := s.toks + 1 }) (wpAny_bind (hm.here (s := { s with toks := s.toks + 1 }) ?_))))
 rw [Zra]
 refine wpAny_pure (wpAny_bind (J.type.here (s := { s with toks := s.toks + 1 }) (wpAny_bind ((looks_findIn (M := model prog w) X hf).here (s := { s with toks := s.toks + 1 }) (wpAny_bind (wpAny_pure ?_))))))
 dsimp only
 refine wpAny_bind (wpAny_pure (wpAny_bind (wpAny_bind (wpAny_loadPart (s := { s with toks := s.toks + 1 }) he (wpAny_bind (Looks.here (s := { s with toks := s.toks + 1 }) (looks_clsIn (M := model prog w) X hc) ?_))))))
 rw [if_neg (by simp)]
 show wpAny _ _ (alloc emptyDict >>= fun d => update e (fun o => { o with dict := some d }) >>= fun _ => dictMade (.ref C) e d) _ _ _
 have he1 := Heap.get?_push_of_some (h := s.heap) emptyDict he
 refine wpAny_bind (wpAny_alloc (wpAny_bind (wpAny_update (o := Zj1 C none tt) he1 ?_)))
 have ne : s.heap.objs.size ≠ e := Nat.ne_of_gt (Heap.lt_size he)
 have k1 : ∀ b o, b ≠ e -> (s.heap.push emptyDict).get? b = some o -> ((s.heap.push emptyDict).update e fun o => { o with dict := some s.heap.objs.size }).get? b = some o := fun b o n z => by
  rw [Heap.get?_update_other _ _ (Ne.symm n)]; exact z
 have e1 := k1 _ _ ne (Heap.get?_push_size s.heap (o := emptyDict) rfl)
 have e2 : ((s.heap.push emptyDict).update e fun o => { o with dict := some s.heap.objs.size }).get? e = some (Zj1 C (some s.heap.objs.size) tt) := by
  rw [Heap.get?_update_self _ he1 rfl]
 have n1 : ((s.heap.push emptyDict).update e fun o => { o with dict := some s.heap.objs.size }).Ns1 s.heap.objs.size fun _ => none := Heap.Ns1.of_empty ⟨emptyDict, #[], _, e1, rfl, (fun y hy => absurd hy (by simp)), fun _ => rfl⟩
 show wpAny _ _ (pure (some s.heap.objs.size)) _ _ _
 refine wpAny_pure (wpAny_bind (wpAny_pure (wpAny_bind (wpAny_nsSet1 n1 fun h' n2 s2 => ?_))))
 obtain ⟨oD, esD, epD, g1, g2, g3⟩ := n2.count (ns := [f]) fun y hy => by
  by_cases z : y = f
  ·simp [z]
  ·rw [if_neg z] at hy; exact absurd rfl hy
 refine wpAny_bind (wpAny_lookBehind g1 (by rw [g2]; exact pastItsLine_dict (Nat.le_trans g3 (by rw [sizeLine_eq]; simp))) (wpAny_pure ?_))
 refine q h' s.heap.objs.size (Heap.get?_none_of_le (Nat.le_refl _)) ((s2.2 _ (Ne.symm ne)).trans e2) n2 fun b o n z => ?_
 rw [s2.2 b (Nat.ne_of_lt (Heap.lt_size z))]
 exact k1 b o n (Heap.get?_push_of_some _ z)
end
section
variable {prog : Program} {w : World} {A : Around} {E : Value -> Shared -> Prop} {s : Shared} {K : Frag} {C x : Addr} {ox od : Obj} {f : Str} {v : Value} {ex : Bool}
theorem Zmw {Q : Value -> Shared -> Prop} (L : ExcL K C) (X : K.In s.heap) (I : InstAt s.heap x ox C (some od)) (hf : findObj K C (some od) f = some (.value v)) (hv : handedIn v = true) (q : Q v { s with toks := s.toks + 1 }) : wpAny (model prog w) A (getAttr (.ref x) f ex) Q E s := by
 obtain ⟨hh, g, d, t, os⟩ := s
 have L0 := I.type (M := model prog w)
 have L1 := looks_findIn (M := model prog w) X L.ga
 have L2 := looks_findIn (M := model prog w) X L.gr
 have LF := looks_find (M := model prog w) X I hf
 have LS := looks_subIn (M := model prog w) X L.sb
 unfold getAttr getAttrBy
 refine wpAny_bind (wpAny_mkText (wpAny_holding (wpAny_bind (L0.at (wpAny_bind (L1.at ?_))))))
 show wpAny _ _ (if (onTheHeap (Value.ref C) && (Value.builtin "BaseException.__getattribute__" == Value.builtin "object.__getattribute__")) = true then _ else _) _ _ _
 have n2 : (Value.builtin "BaseException.__getattribute__" == Value.builtin "object.__getattribute__") = false := by decide +kernel
 rw [if_neg (by rw [n2, Bool.and_false]; exact Bool.false_ne_true)]
 unfold getAttrByItsOwn hookBefore
 rw [if_pos (by rfl)]
 refine wpAny_bind (L2.at (wpAny_bind (wpAny_attempt (wpAny_holding ?_))))
 unfold callGetattribute
 have n3 : (ex && onTheHeap (Value.builtin "BaseException.__getattribute__")) = false := by cases ex <;> rfl
 rw [if_neg (by rw [n3]; exact Bool.false_ne_true)]
 unfold boundAndCalled
 have LI : Looks (model prog w) hh (isInstance (.ref x) (.type "BaseException")) true := L0.andThen LS
 rw [PySem.F.attr_ValueError.ga.bind (.ref x)]
 refine wpAny_bind (wpAny_pure ?_)
 show wpAny _ _ (call (.builtin "BaseException.__getattribute__") [.ref x, .str f t]) _ _ _
 refine wpAny_call (codeAny_call_builtin PySem.F.attr_ValueError.ga.plain PySem.F.entry_bexc_ga ?_)
 have b1 : builtinKind "BaseException.__getattribute__" = some .slot := by decide +kernel
 have b2 : splitId "BaseException.__getattribute__" = some ("BaseException", "__getattribute__") := by decide +kernel
 have b3 := PySem.F.args_bexc_ga (.ref x) (.str f t)
 simp only [checkBuiltinCall, b1, b2]
 refine wpAny_bind (LI.at ?_)
 repeat (first | (with_reducible refine L0.at ?_) | (with_reducible refine LF.at ?_) | wp_step)
 exact handed_on hv q
end
structure FlyY (l : List Env) (H H1 : Hp) (h0 h1 : Heap) (a : Addr) (C : Value) (dx : Option Addr) : Prop where
 new : h0.get? a = none
 fly : ∃ B : Heap, FlyD B l a C dx .none h1 ∧ (∀ b o, h0.get? b = some o -> b ∉ frs l -> ∃ o', B.get? b = some o' ∧ (H b = none -> o' = o)) ∧ ∀ b ho, H1 b = some ho -> ∃ o, h1.get? b = some o ∧ B.get? b = some o
noncomputable def CXy (P : Program) (w : World) : CXT := fun outer H s E e s' => ∃ (a : Addr) (C : Value) (dx : Option Addr) (H1 : Hp), e = .ref a ∧ E C dx H1 ∧ s'.os = s.os ∧ AllBare s'.gens ∧ Un (frs outer) [] H H1 s.heap s'.heap ∧ HOk P w H1 s'.heap ∧ FlyY outer H H1 s.heap s'.heap a C dx
section
variable {P : Program} {w : World} {K : PySem.W.Frag} {mg : Str -> Option Value} {base : Heap} {N : List Str} {qual : Str} {scope : Scope} {f : Addr} {cd : Value} {A : Around} {outer : List Env} {s s1 : Shared} {H H1 : Hp} {E : XK} {pins : List (Addr × Obj)} {σ : L2.St}
theorem Zo0 {e : Addr} {oe : Obj} {vs : Array Value} (I : Inv (Zfe (CXy P w) P w K mg base N qual scope f cd A outer s H E) pins σ H1 s1) (he : s1.heap.get? e = some oe) (hv : oe.data = .fields vs) (h1 : vs[1]? = some .none) (n1 : H1 e = none) (new : s.heap.get? e = none) (q : E oe.cls oe.dict H1) :
  (Zfe (CXy P w) P w K mg base N qual scope f cd A outer s H E).xe (.ref e) s1 := by
 have hS := I.stack
 have fr := I.ok.frames
 obtain ⟨L, hL⟩ : ∃ L, L = e :: frs (Zfe (CXy P w) P w K mg base N qual scope f cd A outer s H E).stack := ⟨_, rfl⟩
 have hF : s1.heap.FunFrames (hideAll s1.heap L) (Zfe (CXy P w) P w K mg base N qual scope f cd A outer s H E).stack := funFrames_hide hS fun env he b hb => by rw [hL]; exact List.mem_cons_of_mem _ (List.mem_filterMap.mpr ⟨env, he, hb⟩)
 refine Ztm (B := hideAll s1.heap L) fr rfl hF (fun b o z => of_hideAll _ z) (hideAll_none _ (by rw [hL]; exact List.mem_cons_self ..)) he hv h1 fun h2 f1 f4 => ?_
 have nf : ∀ b ho, H1 b = some ho -> b ∉ L := fun b ho eb z => by
  rw [hL] at z
  rcases List.mem_cons.mp z with rfl | z
  ·rw [n1] at eb; cases eb
  ·rw [I.stkFree b z] at eb; cases eb
 have kp : ∀ b o, s1.heap.get? b = some o -> b ∉ L -> h2.get? b = some o := fun b o eb z => f1.st b o (hideAll_get _ eb z)
 have old : ∀ b o, s.heap.get? b = some o -> b ∉ frs outer -> b ∉ L := fun b o eb z y => by
  rw [hL] at y
  rcases List.mem_cons.mp y with rfl | y
  ·rw [new] at eb; cases eb
  ·rcases List.mem_cons.mp (I.stkSub b y) with rfl | y
   ·exact absurd (Nat.lt_of_lt_of_le (Heap.lt_size eb) I.ok.above) (Nat.lt_irrefl _)
   ·exact z y
 have fram : ∀ b o, b ∈ frs (Zfe (CXy P w) P w K mg base N qual scope f cd A outer s H E).stack -> s1.heap.get? b = some o -> ∃ sl, h2.get? b = some { o with slots := sl } := fun b o z eb => by
  obtain ⟨_, o', g1, g3⟩ := hS.mem z
  rw [eb] at g1
  cases g1
  exact f4 b o eb g3
 refine ⟨e, oe.cls, oe.dict, H1, rfl, q, I.os, I.bare, ⟨fun b o eb n nb _ => kp b o (I.base.keep b o eb n nb (by rintro z; cases z)) (old b o eb nb), fun b o eb n hb _ => ?_, fun b o eb n _ => I.base.free b o eb n (by intro z; cases z), fun b o eb _ => ?_, I.base.tups, I.base.frzs, I.base.tbls⟩, fun b ho eb => ?_, ⟨new, _, f1, fun b o eb nb => ?_, fun b ho eb => ?_⟩⟩
 ·obtain ⟨sl, g⟩ := I.base.slot b o eb n hb (by intro z; cases z)
  obtain ⟨sl', g'⟩ := fram b _ (List.mem_cons_of_mem _ hb) g
  exact ⟨sl', g'⟩
 ·obtain ⟨o1, g⟩ := I.base.there b o eb (by intro z; cases z)
  by_cases z : b ∈ frs (Zfe (CXy P w) P w K mg base N qual scope f cd A outer s H E).stack
  ·obtain ⟨sl, g'⟩ := fram b o1 z g
   exact ⟨_, g'⟩
  ·refine ⟨o1, kp b o1 g fun y => ?_⟩
   rw [hL] at y
   rcases List.mem_cons.mp y with rfl | y
   ·rw [new] at eb; cases eb
   ·exact z y
 ·exact (I.hok b ho eb).stay (fun c u hc g => kp c u g (by
   rcases hc with rfl | hc
   ·exact nf _ _ eb
   ·exact nf _ _ hc)) (fun _ z => z) (fun _ _ z => z)
 ·obtain ⟨o1, g⟩ := I.base.there b o eb (by intro z; cases z)
  refine ⟨o1, hideAll_get _ g (old b o eb nb), fun n => ?_⟩
  exact Option.some.inj (g.symm.trans (I.base.keep b o eb n nb (by intro z; cases z)))
 ·obtain ⟨o, g⟩ := (I.hok b ho eb).here
  exact ⟨o, kp b o g (nf b ho eb), hideAll_get _ g (nf b ho eb)⟩
theorem Zpg {s' : Shared} {H0 : Hp} {a : Addr} {C : Value} {dx : Option Addr} (I : Inv (Zfe (CXy P w) P w K mg base N qual scope f cd A outer s H E) pins σ H0 s1) (os : s'.os = s1.os) (bare : AllBare s'.gens) (un : Un (frs (Zfe (CXy P w) P w K mg base N qual scope f cd A outer s H E).stack) [] H0 H1 s1.heap s'.heap) (hok : HOk P w H1 s'.heap)
  (fl : FlyY (Zfe (CXy P w) P w K mg base N qual scope f cd A outer s H E).stack H0 H1 s1.heap s'.heap a C dx) (q : E C dx H1) : (Zfe (CXy P w) P w K mg base N qual scope f cd A outer s H E).xe (.ref a) s' := by
 obtain ⟨B, fly, bo, bt⟩ := fl.fly
 have fr := I.ok.frames
 refine Zw5 fr rfl fly fun h2 f1 up => ?_
 obtain ⟨un2, ok2⟩ := Zlc un hok bo bt f1.st up fly.ff
 have old : ∀ b o, s.heap.get? b = some o -> b ∉ frs outer -> b ∉ frs (Zfe (CXy P w) P w K mg base N qual scope f cd A outer s H E).stack := fun b o eb z y => by
  rcases List.mem_cons.mp (I.stkSub b y) with rfl | y
  ·exact absurd (Nat.lt_of_lt_of_le (Heap.lt_size eb) I.ok.above) (Nat.lt_irrefl _)
  ·exact z y
 have u : Un (frs (Zfe (CXy P w) P w K mg base N qual scope f cd A outer s H E).stack) [] H H1 s.heap h2 := (I.base.mono (fun b hb => List.mem_cons_of_mem _ hb) (fun b hb => hb)).trans un2
 refine ⟨a, C, dx, H1, rfl, q, os.trans I.os, bare, ⟨fun b o eb n nb hx => u.keep b o eb n (old b o eb nb) hx, fun b o eb n hb hx => u.slot b o eb n (List.mem_cons_of_mem _ hb) hx, u.free, u.there, u.tups, u.frzs, u.tbls⟩, ok2, ⟨?_, B, f1, fun b o eb nb => ?_, fun b ho eb => ?_⟩⟩
 ·cases z : s.heap.get? a with
  | none => rfl
  | some o =>
   obtain ⟨o1, g⟩ := I.base.there a o z (by intro y; cases y)
   rw [fl.new] at g; cases g
 ·obtain ⟨o1, g⟩ := I.base.there b o eb (by intro z; cases z)
  obtain ⟨o', g', z⟩ := bo b o1 g (old b o eb nb)
  refine ⟨o', g', fun n => ?_⟩
  rw [z (I.base.free b o eb n (by intro z; cases z))]
  exact Option.some.inj (g.symm.trans (I.base.keep b o eb n nb (by intro z; cases z)))
 ·obtain ⟨o, g, g'⟩ := bt b ho eb
  exact ⟨o, f1.st b o g', g'⟩
end
section
variable {M : Model} {A : Around} {E : Value -> Shared -> Prop} {s : Shared} {env : Env} {C Cl : Addr} {c : ClassData} {x : Expr} {pos : Pos} {Q : Flow -> Shared -> Prop}
theorem Zpi (hh : A.handled = none) (h : wpAny M A (eval x env) (fun v s1 => ∃ e dx t, v = .ref e ∧ IniC s1.heap C Cl c ∧ s1.heap.get? e = some (Zj1 C dx t) ∧ E (.ref e) s1) E s) : wpAny M A (exec (.Raise (some x) none pos) env) Q E s := by
 rw [arm_exec_Raise]
 simp only [evalOpt, Option.map]
 refine wpAny_bind (wpAny_standAt ?_)
 unfold raiseStmt
 refine wpAny_bind (wpAny_bind (wpAny_mono h (fun v s1 h1 => wpAny_bind (wpAny_standAt (wpAny_pure ?_))) fun _ _ y => y))
 obtain ⟨e, dx, t, rfl, Y, he, hE⟩ := h1
 obtain ⟨nm, q, N, bs, sn, sub, ab, col, dd, k0, k1, k2, k3, k5, hC, rfl⟩ := Y.obj
 obtain ⟨hp, g, d, tk, os⟩ := s1
 have he' : hp.get? e = some { cls := .ref C, dict := dx, data := .fields #[.ref t, .none, .none, .none, .bool false, .none] } := he
 have hcB : (Value.ref C :: Value.ref Cl :: vE).contains (.type "BaseException") = true := by rw [List.contains_cons, List.contains_cons]; rfl
 repeat (first | with_reducible refine wpAny_loadPart_at he' ?_ | with_reducible refine wpAny_loadPart_at hC ?_ | (with_reducible refine wpAny_isSubtype_exc hC ?_; rw [hcB]) | wp_step)
 exact wpAny_raiseNew_none hh hE
end
noncomputable def XE (C : Addr) (dx : Option Addr) (e : Addr) : HO := .ext fun h => ∃ t, h.get? e = some (Zj1 C dx t)
theorem Zwi {P : Program} {w : World} {H : Hp} {h : Heap} {C e t : Addr} {dx : Option Addr} (g : h.get? e = some (Zj1 C dx t)) : Zcg P w H h e (XE C dx e) :=
 ⟨⟨t, g⟩, ⟨_, g⟩, fun h1 h2 ⟨t1, g1⟩ k => ⟨t1, k _ g1⟩⟩
theorem Zsa {P : Program} {w : World} {H : Hp} {h : Heap} {C e : Addr} {dx : Option Addr} (ok : HOk P w H h) (z : H e = some (XE C dx e)) : ∃ t, h.get? e = some (Zj1 C dx t) := (ok e _ z).1
structure ExI (K : Frag) (C Cl fI : Addr) (f : Str) : Prop where
 xin : Zsd K C Cl = true
 init : findIn K (.ref C) "__init__" = some (some (.ref fI))
 fn : typeIn K (.ref fI) = some (.type "function")
 sa : findIn K (.ref C) "__setattr__" = some (some (.builtin "object.__setattr__"))
 nf : findIn K (.ref C) f = some none
 ga : specialIn K (.ref Cl) "__getattribute__" = some (some (.builtin "type.__getattribute__"))
 rd : readsIn K Cl (.type "type") = true
 fc : findCls K (.ref Cl) (.type "type") "__init__" = some (.val (.builtin "ValueError.__init__"))
section
variable {X : Cx} {C Cl fI : Addr} {f : Str}
theorem Zru (a b : Str) : (a ++ b).length = a.length + b.length := by
 show (a.cps ++ b.cps).size = _
 rw [Array.size_append]; rfl
noncomputable def tMsg (i : Nat) : TE := fun σ H Q => ∃ n : Int, σ[i]? = some (some (.int n)) ∧ n.natAbs < 1000000 ∧ ∀ x, Q (.str x) H
theorem Zyc {i : Nat} {x c1 c2 : Str} {j1 j2 : Nat} {p1 p2 p3 p4 pos : Pos} (hi : X.N[i]? = some x) (hv : Vis X.env.scope x) (h1 : c1.length ≤ 1000) (h2 : c2.length ≤ 1000) (hd : (x == ("__debug__" : Str)) = false := by decide) (hd2 : (x == ("__classdict__" : Str)) = false := by decide) :
  PE X (.JoinedStr [.Constant (.str c1) j1 p1, .FormattedValue (.Name x p2) (-1) none p3, .Constant (.str c2) j2 p4] pos) (tMsg i) := by
 rintro pins s σ H Q I ⟨n, hn, hb, q⟩
 have z0 : Str.empty ++ c1 = c1 := by
  show Str.mk (#[] ++ c1.cps) = c1
  rw [Array.empty_append]
 have sz : sizeLine = 16777216 := sizeLine_eq
 have ln : (toString n : Str).length ≤ 13 := by
  have := PySem.PyData.shown_int_le (i := n) (by omega)
  exact this
 refine JoinedStr_many (joinParts_cons (thn (Zrp (X := X) pins _ σ H (fun v H2 => v = .str c1 ∧ H2 = H) I ⟨rfl, rfl⟩) fun u1 s1 z => ?_))
 obtain ⟨v1, H1, I1, r1, rfl, rfl⟩ := z
 obtain ⟨t1, rfl⟩ := r1
 show (Str.empty ++ c1).length ≤ sizeLine ∧ _
 rw [z0]
 refine ⟨by omega, joinParts_cons (FormattedValue_plain (thn (Zff (X := X) hi hv hd hd2 pins s1 σ H1 (fun v H2 => v = .int n ∧ H2 = H1) I1 ⟨_, hn, rfl, rfl⟩) fun u2 s2 z => ?_))⟩
 obtain ⟨v2, H2, I2, r2, rfl, rfl⟩ := z
 obtain ⟨t2, rfl⟩ := r2
 refine formatField_int_small ?_ ?_
 ·have : n.natAbs.log2 ≤ 20 := by
   rcases Nat.eq_zero_or_pos n.natAbs with z | z
   ·rw [z]; decide
   ·have := (Nat.log2_lt (by omega)).mpr (show n.natAbs < 2 ^ 21 by omega)
    omega
  omega
 have l1 := Zru c1 (toString n)
 refine ⟨by omega, joinParts_cons (thn (Zrp (X := X) pins _ σ H2 (fun v H3 => v = .str c2 ∧ H3 = H2) (I2.tok _) ⟨rfl, rfl⟩) fun u3 s3 z => ?_)⟩
 obtain ⟨v3, H3, I3, r3, rfl, rfl⟩ := z
 obtain ⟨t3, rfl⟩ := r3
 have l2 := Zru (c1 ++ toString n) c2
 exact ⟨by omega, joinParts_nil ⟨.str _, H3, I3.tok _, ⟨_, rfl⟩, q _⟩ (by omega)⟩
noncomputable def tBase (C : Addr) (ta : TA) : TE := fun σ H Q => ta σ H fun vs H1 => ∃ e x, vs = [.ref e, .str x] ∧ H1 e = some (XE C none e) ∧ Q .non (upd H1 e (XE C none e))
theorem Zvn {pl : Sem Bool} {bn : Str} {e : Expr} {es : List Expr} {ta : TA} {p apos pos : Pos} (T : ExI X.K C Cl fI f) (hg : Gl X bn) (hm : X.mg bn = some (.ref Cl)) (ha : PA X (e :: es) ta)
  (hdb : (bn == ("__debug__" : Str)) = false := by decide) (hst : starEach (e :: es) X.env = (false, eval e X.env) :: starEach es X.env := by rfl) (hpl : (backTo pos (starEach es X.env)).any (·.1) = false := by rfl)
  (ht : eval (.Call (.Attribute (.Name bn p) "__init__" apos) (e :: es) [] pos) X.env = (do
   let ov ← eval (.Name bn p) X.env
   standAt apos.atName
   let (f, first) ← holding [ov] (getMethod ov "__init__" pl)
   callWith pos f first (backTo pos (starEach (e :: es) X.env)) (backToKw pos (keywordEach [] X.env))) := by rfl) :
  PE X (.Call (.Attribute (.Name bn p) "__init__" apos) (e :: es) [] pos) (tBase C ta) := by
 intro pins s σ H Q I h
 refine PySem.W.methodCall_KW (pl := pl) (Zdc I hg hm ?_ hdb) ht
 refine method_cls I.kIn T.ga (cls_value I.kIn T.rd T.fc rfl ?_)
 refine PyProof.Rows.callWith_builtin1 (thn (ha pos pins _ σ H _ (I.tok _) h) fun us s1 ⟨vs, H1, I1, r1, e', x, hvs, hH, q⟩ => ?_) hst hpl
 subst hvs
 obtain ⟨u1, u2, rfl, r2, r3⟩ := Zn7 r1
 have r2 : u1 = .ref e' := r2
 subst r2
 obtain ⟨t, g⟩ := Zsa I1.hok hH
 obtain ⟨c, hc, Y⟩ := Zh0 I1.kIn T.xin
 refine Zv9 Y g fun h' t' k g' => ?_
 refine ⟨.non, _, I1.write (x := e') (e := e') (t' := s1.toks) (by rw [hH]; exact True.intro) (.inl rfl) (fun b u n z => k b u n z) ⟨_, g'⟩ (Zwi g'), rfl, q⟩
noncomputable def tSetX (C : Addr) (f : Str) (ta tv : TE) : TS := fun D σ H => tv σ H fun y H1 => ta σ H1 fun x H2 => ∃ e, x = .ref e ∧ H2 e = some (XE C none e) ∧ ∀ dx, H2 dx = none -> dx ≠ e -> D.nx σ (upd (upd H2 dx (.xd [(f, y)])) e (XE C (some dx) e))
theorem Inv.xdict {pins : List (Addr × Obj)} {σ : L2.St} {H : Hp} {s : Shared} {h' : Heap} {e dx t : Addr} {y : V} {u : Value} {t' : Nat} (I : Inv X pins σ H s) (he : H e = some (XE C none e)) (new : s.heap.get? dx = none) (g : h'.get? e = some (Zj1 C (some dx) t)) (n1 : h'.Ns1 dx fun z => if z = f then some u else none) (ry : Zb2 y u)
  (k : ∀ b o, b ≠ e -> s.heap.get? b = some o -> h'.get? b = some o) : Inv X pins σ (upd (upd H dx (.xd [(f, y)])) e (XE C (some dx) e)) { s with heap := h', toks := t' } := by
 have hn : H dx = none := by
  cases z : H dx with
  | none => rfl
  | some ho =>
   obtain ⟨o, q⟩ := (I.hok dx ho z).here
   rw [new] at q; cases q
 have ne : dx ≠ e := fun z => by rw [z, he] at hn; cases hn
 have stay : ∀ b ho, H b = some ho -> b ≠ e -> upd (upd H dx (.xd [(f, y)])) e (XE C (some dx) e) b = some ho := fun b ho z n => by
  rw [Zah n, Zah (fun q => by rw [q, hn] at z; cases z)]; exact z
 refine I.un ⟨fun b o eb n _ _ => k b o (fun z => by rw [z, he] at n; cases n) eb, fun b o eb n _ _ => ⟨o.slots, k b o (fun z => by rw [z, he] at n; cases n) eb⟩, fun b o eb n _ => ?_, fun b o eb _ => ?_, fun b xs z => stay b _ z (fun q => by rw [q, he] at z; cases z), fun b o u z => stay b _ z (fun q => by rw [q, he] at z; cases z), fun b ps z => ⟨#[], by rw [stay b _ z (fun q => by rw [q, he] at z; cases z)]; simp⟩⟩ fun b ho z => ?_
 ·rw [Zah (fun q => by rw [q, he] at n; cases n), Zah (fun q => by rw [q, new] at eb; cases eb)]; exact n
 ·by_cases q : b = e
  ·subst q; exact ⟨_, g⟩
  ·exact ⟨o, k b o q eb⟩
 ·by_cases q : b = e
  ·subst q
   rw [upd_same] at z
   cases z
   exact Zwi g
  ·rw [Zah q] at z
   by_cases q2 : b = dx
   ·subst q2
    rw [upd_same] at z
    cases z
    refine ⟨_, n1, fun f' => ?_⟩
    by_cases q3 : f' = f
    ·subst q3
     show RelO (List.lookup f' [(f', y)]) (if f' = f' then some u else none)
     rw [if_pos rfl, List.lookup_cons_self]
     exact ry
    ·show RelO (List.lookup f' [(f, y)]) (if f' = f then some u else none)
     rw [if_neg q3]
     have : List.lookup f' [(f, y)] = none := by
      have : (f' == f) = false := beq_false_of_ne q3
      simp [List.lookup, this]
     rw [this]
     exact True.intro
   ·rw [Zah q2] at z
    refine (I.hok b ho z).stay (fun c v hc r => k c v ?_ r) (fun c r => stay c _ r fun q4 => by rw [q4, he] at r; cases r) fun c xs r => stay c _ r fun q4 => by rw [q4, he] at r; cases r
    rcases hc with rfl | hc
    ·exact q
    ·intro q4; rw [q4, he] at hc; cases hc
theorem Zxl {o value : Expr} {ta tv : TE} {pos pos' : Pos} (T : ExI X.K C Cl fI f) (ha : PE X o ta) (hv : PE X value tv) (hs : swapsWith value (some (.Attribute o f pos')) pos.line X.env = pure false) : PS X (.Assign [.Attribute o f pos'] value pos) (tSetX C f ta tv) := by
 intro pins s σ H D I h
 refine plainObj_wpAny_Assign_Attribute (thn (hv pins s σ H _ I h) fun u s1 ⟨y, H1, I1, ry, q⟩ => thn (ha pins s1 σ H1 _ I1 q) fun ov s2 ⟨x, H2, I2, rx, e, ex, he, q2⟩ => ?_) hs
 subst ex
 have rx : ov = Value.ref e := rx
 subst rx
 obtain ⟨t, g⟩ := Zsa I2.hok he
 obtain ⟨c, hc, Y⟩ := Zh0 I2.kIn T.xin
 refine Yag I2.kIn hc Y g T.sa T.nf fun h' dx new g' n1 k => ?_
 have hn : H2 dx = none := by
  cases z : H2 dx with
  | none => rfl
  | some ho =>
   obtain ⟨o, q⟩ := (I2.hok dx ho z).here
   rw [new] at q; cases q
 exact ⟨σ, _, Inv.xdict I2 he new g' n1 ry k, q2 dx hn fun z => by rw [z, he] at hn; cases hn⟩
end
noncomputable def spI (C : Addr) (f : Str) : Sp := fun vs H Q _ => ∃ (e : Addr) (n : Int), vs = [.ref e, .int n] ∧ n.natAbs < 1000000 ∧ H e = some (XE C none e) ∧ ∀ dx, H dx = none -> dx ≠ e -> Q .non (upd (upd H dx (.xd [(f, .int n)])) e (XE C (some dx) e))
theorem Zuu {P : Program} {w : World} {K : Frag} {mg : Str -> Option Value} {base : Heap} {C Cl fI : Addr} {f qual ln : Str} {st : Stmt} {fd : FuncData} {k : Nat} {c1 c2 : Str} {j1 j2 : Nat} {p1 p2 p3 p4 p5 p6 p7 p8 p9 p10 q1 q2 q3 q4 : Pos}
  (T : ExI K C Cl fI f) (hm : mg "ClaimError" = some (.ref Cl)) (F : Fun K "__init__" qual st fI fd) (S : FnScope ["self", ln] ["self", ln] (Zad st))
  (hb : Zby st = [.Expr (.Call (.Attribute (.Name "ClaimError" p1) "__init__" p2) [.Name "self" p3, .JoinedStr [.Constant (.str c1) j1 q1, .FormattedValue (.Name ln q2) (-1) none q3, .Constant (.str c2) j2 q4] p4] [] p5) p6, .Assign [.Attribute (.Name "self" p7) f p8] (.Name ln p9) p10])
  (h1 : c1.length ≤ 1000) (h2 : c2.length ≤ 1000) (sS : (Zad st).names.lookup ("self" : Str) = some .local) (sL : (Zad st).names.lookup ln = some .local) (sB : (Zad st).names.lookup ("ClaimError" : Str) = some .globalImplicit)
  (ht : ∀ (L : Addr) (cdv : Value), ∃ pl, eval (.Call (.Attribute (.Name "ClaimError" p1) "__init__" p2) [.Name "self" p3, .JoinedStr [.Constant (.str c1) j1 q1, .FormattedValue (.Name ln q2) (-1) none q3, .Constant (.str c2) j2 q4] p4] [] p5) (envOfC qual (Zad st) L fI cdv) = (do
   let ov ← eval (.Name "ClaimError" p1) (envOfC qual (Zad st) L fI cdv)
   standAt p2.atName
   let (f, first) ← holding [ov] (getMethod ov "__init__" pl)
   callWith p5 f first (backTo p5 (starEach [.Name "self" p3, .JoinedStr [.Constant (.str c1) j1 q1, .FormattedValue (.Name ln q2) (-1) none q3, .Constant (.str c2) j2 q4] p4] (envOfC qual (Zad st) L fI cdv))) (backToKw p5 (keywordEach [] (envOfC qual (Zad st) L fI cdv)))))
  (d3 : (ln == ("__debug__" : Str)) = false := by decide) (d4 : (ln == ("__classdict__" : Str)) = false := by decide) :
  FnOk P w K mg base CX0 (k + 1) fI fd ["self", ln] (spI C f) := by
 refine F.ok (N := ["self", ln]) S (fun vs H Q E ⟨e, n, z, _⟩ => by rw [z]; rfl) fun cdv A outer s H vs Q E hr zz => ?_
 obtain ⟨e, n, hvs, hn, he, q⟩ := zz
 subst hvs
 rw [hb]
 obtain ⟨pl, ht⟩ := ht s.heap.objs.size cdv
 have e1 : PE (Zfe CX0 P w K mg base ["self", ln] qual (Zad st) fI cdv A outer s H E).nox (.Call (.Attribute (.Name "ClaimError" p1) "__init__" p2) [.Name "self" p3, .JoinedStr [.Constant (.str c1) j1 q1, .FormattedValue (.Name ln q2) (-1) none q3, .Constant (.str c2) j2 q4] p4] [] p5) _ := Zvn (pl := pl) T sB hm (Zb4 (Zff (i := 0) rfl (.inl sS)) (Zb4 (Zyc (i := 1) rfl (.inl sL) h1 h2 d3 d4) Zh6 rfl) rfl) (by decide) rfl rfl ht
 have s1 := Zrt (pos := p6) e1 rfl
 have s2 := Zxl (X := (Zfe CX0 P w K mg base ["self", ln] qual (Zad st) fI cdv A outer s H E).nox) (pos := p10) (pos' := p8) T (Zff (pos := p7) (x := "self") (i := 0) rfl (.inl sS)) (Zff (pos := p9) (x := ln) (i := 1) rfl (.inl sL) d3 d4) rfl
 refine ⟨_, Zfg s1 (Zxf s2), ?_⟩
 refine ⟨.ref e, rfl, n, rfl, hn, fun x => ⟨e, x, rfl, he, .int n, rfl, .ref e, rfl, e, rfl, upd_same, fun dx h3 h4 => ?_⟩⟩
 rw [Zah h4] at h3
 have eq : upd (upd (upd H e (XE C none e)) dx (.xd [(f, .int n)])) e (XE C (some dx) e) = upd (upd H dx (.xd [(f, .int n)])) e (XE C (some dx) e) := by
  funext b
  unfold upd
  by_cases z : b = e
  ·rw [if_pos z, if_pos z]
  ·rw [if_neg z, if_neg z, if_neg z]
 show Q .non _
 rw [eq]
 exact q dx h3 h4
section
variable {X : Cx} {C Cl fI : Addr} {f : Str}
theorem Inv.drop {pins : List (Addr × Obj)} {σ : L2.St} {H : Hp} {s : Shared} {e : Addr} {φ : Heap -> Prop} (I : Inv X pins σ H s) (he : H e = some (.ext φ)) (new : X.s₀.heap.get? e = none) : Inv X pins σ (fun b => if b = e then none else H b) s := by
 have k : ∀ b ho, H b = some ho -> b ≠ e -> (if b = e then none else H b) = some ho := fun b ho z n => by rw [if_neg n]; exact z
 have fr : ∀ b, H b = none -> (if b = e then none else H b) = none := fun b z => by split <;> first | rfl | exact z
 refine ⟨I.ok, I.os, I.bare, ⟨I.base.keep, I.base.slot, fun b o eb n hx => fr b (I.base.free b o eb n hx), I.base.there, fun b xs z => ?_, fun b o u z => ?_, fun b ps z => ?_⟩, I.loc, I.cell, fr _ I.free, fun x c z => fr c (I.freeC x c z), fun p hp => ?_, fun b ho z => ?_, I.len⟩
 ·have z := I.base.tups b xs z
  exact k b _ z fun q => by rw [q, he] at z; cases z
 ·have z := I.base.frzs b o u z
  exact k b _ z fun q => by rw [q, he] at z; cases z
 ·obtain ⟨m, z⟩ := I.base.tbls b ps z
  exact ⟨m, k b _ z fun q => by rw [q, he] at z; cases z⟩
 ·obtain ⟨a1, a2, a3⟩ := I.pin p hp
  exact ⟨a1, fr _ a2, a3⟩
 ·split at z
  ·cases z
  ·rename_i n
   exact (I.hok b ho z).stay (fun c v _ r => r) (fun c r => k c _ r fun q => by rw [q, he] at r; cases r) fun c xs r => k c _ r fun q => by rw [q, he] at r; cases r
noncomputable def tXM (h0 : Heap) (C : Addr) (f : Str) (ta : TA) : TE := fun σ H Q => ta σ H fun vs H1 => ∃ n : Int, vs = [.int n] ∧ n.natAbs < 1000000 ∧ ∀ e dx, H1 e = none -> H1 dx = none -> dx ≠ e -> h0.get? e = none -> Q (.ref e) (upd (upd H1 dx (.xd [(f, .int n)])) e (XE C (some dx) e))
theorem Zjy {k : Nat} {fd : FuncData} {ps : List Str} {x : Str} {e : Expr} {ta : TA} {p pos : Pos} (T : ExI X.K C Cl fI f) (F : FnOk X.prog X.w X.K X.mg X.base CX0 k fI fd ps (spI C f)) (hr : Room (k + 1) X.A) (hg : Gl X x) (hm : X.mg x = some (.ref C)) (hk : keepIn X.K (.ref C) = true) (hb : Ze2 X.K fd ps []) (ha : PA X [e] ta)
  (hdb : (x == ("__debug__" : Str)) = false := by decide) (he : starEach [e] X.env = (false, eval e X.env) :: starEach [] X.env := by exact Zao rfl) (hpl : (backTo pos (starEach [] X.env)).any (·.1) = false := by rfl) : PE X (.Call (.Name x p) [e] [] pos) (tXM X.s₀.heap C f ta) := by
 intro pins s σ H Q I h
 refine wpAny_Call_Name_kw (Zdc I hg hm ?_ hdb)
 refine PySem.W.callWith_K (h₀ := X.base) I.ok.mod.kin hk (thn (ha pos pins s σ H _ I h) fun us s1 ⟨vs, H1, I1, r, n, hvs, hn, q⟩ => ⟨I1.kIn, ?_⟩) he hpl
 subst hvs
 obtain ⟨u, rfl, ru⟩ := Zgp r
 obtain ⟨c, hc, Y⟩ := Zh0 I1.kIn T.xin
 obtain ⟨h1, g1, d1, t1, o1⟩ := s1
 have kp : ∀ b o, h1.get? b = some o → ((h1.push { cls := .type "tuple", data := .seq [u].toArray }).push (Zj1 C none h1.objs.size)).get? b = some o := fun b o z => Heap.get?_push_of_some _ (Heap.get?_push_of_some _ z)
 have hx : ((h1.push { cls := .type "tuple", data := .seq [u].toArray }).push (Zj1 C none h1.objs.size)).get? (h1.objs.size + 1) = some (Zj1 C none h1.objs.size) := by heap_get
 have I2 := I1.laid (a := h1.objs.size + 1) (o := XE C none (h1.objs.size + 1)) (t' := t1) kp (Nat.le_succ _) (Zwi hx)
 have hn1 : H1 (h1.objs.size + 1) = none := I1.hok.fresh (Nat.le_succ _)
 have r2 : Zbt [V.ref (h1.objs.size + 1), V.int n] [Value.ref (h1.objs.size + 1), u] := .cons rfl (.cons ru .nil)
 have sp : spI C f [V.ref (h1.objs.size + 1), V.int n] (upd H1 (h1.objs.size + 1) (XE C none (h1.objs.size + 1))) (fun v H2 => v = .non ∧ Q (.ref (h1.objs.size + 1)) H2) fun _ _ _ => False := by
  refine ⟨_, n, rfl, hn, upd_same, fun dx z1 z2 => ⟨rfl, ?_⟩⟩
  rw [Zah z2] at z1
  have eq : upd (upd (upd H1 (h1.objs.size + 1) (XE C none (h1.objs.size + 1))) dx (.xd [(f, .int n)])) (h1.objs.size + 1) (XE C (some dx) (h1.objs.size + 1)) = upd (upd H1 dx (.xd [(f, .int n)])) (h1.objs.size + 1) (XE C (some dx) (h1.objs.size + 1)) := by
   funext b
   unfold upd
   by_cases z : b = h1.objs.size + 1
   ·rw [if_pos z, if_pos z]
   ·rw [if_neg z, if_neg z, if_neg z]
  rw [eq]
  exact q _ dx hn1 z1 z2 (Heap.get?_none_of_le (Nat.le_trans I1.sz (Nat.le_succ _)))
 have hl : ([Value.ref (h1.objs.size + 1), u]).length = ps.length := by
  have e := F.len _ _ _ _ sp
  exact e
 have bd := hb _ [Value.ref (h1.objs.size + 1), u] I2.kIn (by rw [List.append_nil]; exact hl)
 rw [List.append_nil] at bd
 refine wpAny_call (Zxj (C := C) (rest := [u]) Y (looks_findIn I1.kIn T.init) (fun self => bind_fn I1.kIn self T.fn) (by rw [sizeLine_eq]; simp) (codeAny_mono (F.run _ X.stack _ _ ⟨[Value.ref (h1.objs.size + 1), u], []⟩ [Value.ref (h1.objs.size + 1), u] [V.ref (h1.objs.size + 1), V.int n] _ _ (hr.make C [u] []) (I2.env0.make C [u] []) bd r2 sp) fun r s' z => ?_))
 cases r with
 | error e => exact z.elim
 | ok fl =>
  cases fl with
  | ret w' =>
   obtain ⟨v, H', I3, rv, ev, q3⟩ := I2.after z
   subst ev
   exact ⟨rv, ⟨V.ref (h1.objs.size + 1), H', I3, rfl, q3⟩⟩
  | next => exact False.elim z
  | brk => exact False.elim z
  | cont => exact False.elim z
end
noncomputable abbrev YFs := SD -> HD -> Option (Int × HD)
noncomputable abbrev YFF := List D -> HD -> Option (Int × HD)
noncomputable def Zs8 (av : Option Str) (i : Int) (dx : Option Addr) (H : Hp) (ι : List Addr) : Prop := match av with
 | none => dx = none
 | some f => ∃ d, dx = some d ∧ H d = some (.xd [(f, .int i)]) ∧ d ∉ ι
noncomputable def Zw0 (fl : Bool) (X : Cx) (C : Addr) (dx : Option Addr) (H1 : Hp) (e : Value) (s' : Shared) : Prop := ∃ pins σ1 a, e = .ref a ∧ ((fl = false ∧ ∃ oe vs, Inv X pins σ1 H1 s' ∧ s'.heap.get? a = some oe ∧ oe.cls = .ref C ∧ oe.dict = dx ∧ oe.data = .fields vs ∧ vs[1]? = some .none ∧ H1 a = none ∧ X.s₀.heap.get? a = none) ∨
 ∃ s1 H0, Inv X pins σ1 H0 s1 ∧ s'.os = s1.os ∧ AllBare s'.gens ∧ Un (frs X.stack) [] H0 H1 s1.heap s'.heap ∧ HOk X.prog X.w H1 s'.heap ∧ FlyY X.stack H0 H1 s1.heap s'.heap a (.ref C) dx)
noncomputable def rdY (fl : Bool) (X : Cx) (C : Addr) (av : Option Str) (b : YFs) : TS := fun _ σ H => ∃ ι σd Hd i Hd', SRep X.K H ι σ σd ∧ HRep X.K H ι Hd ∧ b σd Hd = some (i, Hd') ∧
 ∀ H1 ι' dx e s', Le X.K H ι H1 ι' -> HRep X.K H1 ι' Hd' -> Zs8 av i dx H1 ι' -> Zw0 fl X C dx H1 e s' -> X.xe e s'
noncomputable def PYf (fl : Bool) (X : Cx) (C : Addr) (av : Option Str) (sts : List Stmt) (b : YFs) : Prop := PSs X sts (rdY fl X C av b)
noncomputable def Zxp (f : SF) (b : YFs) : YFs := fun σ H => (f σ H).bind fun r => match r.1 with
 | .nx => b r.2.1 r.2.2
 | _ => none
noncomputable def yIf (t : TF) (a b : YFs) : YFs := fun σ H => (t σ H).bind fun r => if r.1 then a σ r.2 else b σ r.2
noncomputable def yNo : YFs := fun _ _ => none
noncomputable def Ziv (fe : EF) : YFs := fun σ H => (fe σ H).bind fun r => match r.1 with
 | .int i => if i.natAbs < 1000000 then some (i, r.2) else none
 | _ => none
noncomputable def Zsb (n N : Nat) (b : YFs) : YFF := fun ds H => if ds.length = n then b (ds.map some ++ List.replicate (N - ds.length) none) H else none
section
variable {X : Cx} {fl : Bool} {C : Addr} {av : Option Str} {st : Stmt} {sts : List Stmt} {c : Expr} {pos : Pos}
theorem Zv2 {f : SF} {b : YFs} (h1 : PSf X st f) (h2 : PYf fl X C av sts b) : PYf fl X C av (st :: sts) (Zxp f b) := by
 refine Zx5 (Zfg h1 h2) fun E σ H zz => ?_
 obtain ⟨ι, σd, Hd, i, Hd', s, hr, e, q⟩ := zz
 obtain ⟨⟨f1, σ1, H1⟩, e1, e⟩ := Zo e
 refine ⟨ι, σd, Hd, f1, σ1, H1, s, hr, e1, fun σ' H' ι' l h ss => ?_⟩
 cases f1 with
 | nx => exact ⟨ι', σ1, H1, i, Hd', ss, h, e, fun H2 ι2 dx ex s2 l2 => q H2 ι2 dx ex s2 (l.trans l2)⟩
 | bk => cases e
 | ct => cases e
 | rt d => cases e
noncomputable def PYS (fl : Bool) (X : Cx) (C : Addr) (av : Option Str) (st : Stmt) (b : YFs) : Prop := PS X st (rdY fl X C av b)
theorem Zm9 {b : YFs} (h : PYS fl X C av st b) : PYf fl X C av (st :: sts) b := Zx5 (Zfg h (Zy5 (sts := sts))) fun E σ H z => z
theorem py_no : PYf fl X C av sts yNo := fun pins s σ H D I ⟨_, _, _, _, _, _, _, e, _⟩ => by cases e
theorem py_if {t : TF} {as bs : List Stmt} {a b : YFs} (hc : PTf X c t) (ha : PYf fl X C av as a) (hb : PYf fl X C av bs b) : PYS fl X C av (.If c as bs pos) (yIf t a b) := by
 refine PSi (Zzo hc ha hb) fun E σ H zz => ?_
 obtain ⟨ι, σd, Hd, i, Hd', s, hr, e, q⟩ := zz
 obtain ⟨⟨z, H1⟩, e1, e⟩ := Zo e
 refine ⟨ι, σd, Hd, z, H1, s, hr, e1, fun H' ι' l h => ?_⟩
 cases z with
 | true =>
  rw [if_pos rfl]
  exact ⟨ι', σd, H1, i, Hd', s.mono l, h, by simpa using e, fun H2 ι2 dx ex s2 l2 => q H2 ι2 dx ex s2 (l.trans l2)⟩
 | false =>
  rw [if_neg (by simp)]
  exact ⟨ι', σd, H1, i, Hd', s.mono l, h, by simpa using e, fun H2 ι2 dx ex s2 l2 => q H2 ι2 dx ex s2 (l.trans l2)⟩
open Classical in
noncomputable def Zfx (own : Zgr) (g : GF) (b : SF) (yb : YFs) : List D -> YFs
 | [], _, _ => none
 | x :: r, σ, H => if Zck own H then (g x σ H).bind fun p => match b p.1 p.2 with
   | none => yb p.1 p.2
   | some q => match q.1 with
    | .nx => Zfx own g b yb r q.2.1 q.2.2
    | .ct => Zfx own g b yb r q.2.1 q.2.2
    | _ => none
  else none
noncomputable def Zza (it : ItF) (g : GF) (b : SF) (yb : YFs) : YFs := fun σ H => (it σ H).bind fun p => Zfx p.1.2 g b yb p.1.1 σ p.2
theorem Zym {tg iter : Expr} {body : List Stmt} {f : ItF} {g : GF} {b : SF} {yb : YFs} (hp : PassesOwn (model X.prog X.w) X.A X.env X.xe) (hc : X.calm = true) (hi : PIf X tg iter f) (hg : PGf X tg g) (hb : Zlr X body b) (hy : PYf fl X C av body yb)
  (hs : ∀ x, foldedSetIterable iter X.env x = pure x := by intro _; rfl) : PYS fl X C av (.For tg iter body [] pos) (Zza f g b yb) := by
 have hbb : PSs X body (fun D σ H => rdS X.K b D σ H ∨ rdY fl X C av yb D σ H) := fun pins s σ H D I z => z.elim (hb pins s σ H D I) (hy pins s σ H D I)
 refine PSi (Zui hp hc hi hg hbb hs) fun E σ H zz => ?_
 obtain ⟨ι, σd, Hd, i0, Hf, s, hr, e, q⟩ := zz
 obtain ⟨⟨⟨xs, own⟩, H1⟩, e1, e⟩ := Zo e
 refine ⟨ι, σd, Hd, xs, own, H1, s, hr, e1, fun J H0 ι0 l0 h0 it => ?_⟩
 refine ⟨fun i m σ H => m = xs.length - i ∧ i ≤ xs.length ∧ ∃ ι σd Hd, Le X.K H0 ι0 H ι ∧ SRep X.K H ι σ σd ∧ HRep X.K H ι Hd ∧ Zfx own g b yb (xs.drop i) σd Hd = some (i0, Hf), ⟨xs.length, by simp, Nat.zero_le _, ι0, σd, H1, Le.refl, s.mono l0, h0, by simpa using e⟩, ?_⟩
 rintro i m σ2 H2 ⟨rfl, hi, ι2, σd2, Hd2, l2, s2, h2, e2⟩
 by_cases hlt : i < xs.length
 ·rw [List.drop_eq_getElem_cons hlt, Zfx] at e2
  split at e2
  ·rename_i ok
   obtain ⟨⟨σ3, H3⟩, e3, e2⟩ := Zo e2
   refine .inr ⟨it.go i H2 ι2 Hd2 l2 h2 ok hlt, fun σ' H' => (xs.length - (i + 1) = xs.length - (i + 1) ∧ i + 1 ≤ xs.length ∧ ∃ ι σd Hd, Le X.K H0 ι0 H' ι ∧ SRep X.K H' ι σ' σd ∧ HRep X.K H' ι Hd ∧ Zfx own g b yb (xs.drop (i + 1)) σd Hd = some (i0, Hf)), fun σ' H' p => ⟨_, by omega, p⟩, fun x H' y => ?_⟩
   obtain ⟨ι3, l3, h3, r3⟩ := it.yld i H2 ι2 Hd2 xs[i] x H' l2 h2 ok (by simp [hlt]) y
   refine ⟨ι3, σd2, Hd2, xs[i], σ3, H3, s2.mono l3, h3, r3, e3, fun σ5 H5 ι5 l5 h5 s5 => ?_⟩
   have L5 : Le X.K H0 ι0 H5 ι5 := (l2.trans l3).trans l5
   cases e4 : b σ3 H3 with
   | none =>
    dsimp only at e2
    rw [e4] at e2
    exact .inr ⟨ι5, σ3, H3, i0, Hf, s5, h5, e2, fun H6 ι6 dx ex s6 l6 => q H6 ι6 dx ex s6 ((l0.trans L5).trans l6)⟩
   | some p =>
    obtain ⟨f4, σ4, H4⟩ := p
    dsimp only at e2
    rw [e4] at e2
    refine .inl ⟨ι5, σ3, H3, f4, σ4, H4, s5, h5, e4, fun σ6 H6 ι6 l6 h6 s6 => ?_⟩
    cases f4 with
    | nx => exact ⟨rfl, hlt, ι6, σ4, H4, L5.trans l6, s6, h6, e2⟩
    | ct => exact ⟨rfl, hlt, ι6, σ4, H4, L5.trans l6, s6, h6, e2⟩
    | bk => cases e2
    | rt d => cases e2
  ·cases e2
 ·rw [List.drop_eq_nil_of_le (by omega), Zfx] at e2
  cases e2
theorem Zs1 {Cl fI : Addr} {f : Str} {k : Nat} {fd : FuncData} {ps : List Str} {x : Str} {e : Expr} {fe : EF} {np cpos : Pos} (hc : X.calm = true) (T : ExI X.K C Cl fI f) (F : FnOk X.prog X.w X.K X.mg X.base CX0 k fI fd ps (spI C f)) (hr : Room (k + 1) X.A) (hm : X.mg x = some (.ref C)) (hk : keepIn X.K (.ref C) = true) (hb : Ze2 X.K fd ps [])
  (hf : PAf X [e] (Zaa fe Zae)) (hg : Gl X x := by rfl) (hdb : (x == ("__debug__" : Str)) = false := by decide) (he : starEach [e] X.env = (false, eval e X.env) :: starEach [] X.env := by exact Zao rfl) :
  PYS false X C (some f) (.Raise (some (.Call (.Name x np) [e] [] cpos)) none pos) (Ziv fe) := by
 rintro pins s σ H D I ⟨ι, σd, Hd, i, Hd', ss, hh, eq, q⟩
 obtain ⟨⟨d, H1⟩, e1, e2⟩ := Zo eq
 have z : d = .int i ∧ i.natAbs < 1000000 ∧ H1 = Hd' := by
  dsimp only at e2
  split at e2
  ·rename_i j
   split at e2
   ·rename_i hj; cases e2; exact ⟨rfl, hj, rfl⟩
   ·cases e2
  ·cases e2
 obtain ⟨rfl, hi, rfl⟩ := z
 obtain ⟨c, hc2, _⟩ := Zh0 I.kIn T.xin
 have ea : Zaa fe Zae σd Hd = some ([.int i], H1) := by unfold Zaa; rw [e1]; rfl
 refine Zpi (C := C) (Cl := Cl) (c := c) (I.ok.hd hc) (wpAny_mono (Zjy T F hr hg hm hk hb hf hdb he rfl pins s σ H (fun v H3 => ∃ H2 ι' e dx, v = .ref e ∧ Le X.K H ι H2 ι' ∧ HRep X.K H2 ι' H1 ∧ H2 e = none ∧ H2 dx = none ∧ dx ≠ e ∧ X.s₀.heap.get? e = none ∧ H3 = upd (upd H2 dx (.xd [(f, .int i)])) e (XE C (some dx) e)) I
  ⟨ι, σd, Hd, [.int i], H1, ss, hh, ea, fun vs H' ι' l h P => ?_⟩) (fun v s2 z => ?_) fun _ _ z => z)
 ·obtain ⟨v, rfl, rv⟩ := Zls P
  simp at rv
  exact ⟨i, by rw [rv], hi, fun e dx z1 z2 z3 z4 => ⟨H', ι', e, dx, rfl, l, h, z1, z2, z3, z4, rfl⟩⟩
 ·obtain ⟨v, H3, I3, r3, H2, ι', ex, dx, rfl, l, h, z1, z2, z3, new, rfl⟩ := z
  have r3 : _ = Value.ref ex := r3
  subst r3
  obtain ⟨t, g⟩ := Zsa I3.hok upd_same
  obtain ⟨c', hc3, Y⟩ := Zh0 I3.kIn T.xin
  rw [hc2] at hc3
  cases hc3
  have I4 := Inv.drop I3 (e := ex) (upd_same) new
  have eq : (fun b => if b = ex then none else upd (upd H2 dx (.xd [(f, .int i)])) ex (XE C (some dx) ex) b) = upd H2 dx (.xd [(f, .int i)]) := by
   funext b
   by_cases y : b = ex
   ·rw [if_pos y, y, Zah (Ne.symm z3)]; exact z1.symm
   ·rw [if_neg y, Zah y]
  rw [eq] at I4
  refine ⟨ex, some dx, t, rfl, Y, g, q _ ι' (some dx) _ _ (l.trans (Le.fresh z2 _)) (h.tup z2 _) ⟨dx, rfl, upd_same, h.fresh z2⟩ ⟨pins, σ, ex, rfl, .inl ⟨rfl, _, _, I4, g, rfl, rfl, rfl, rfl, ?_, new⟩⟩⟩
  rw [Zah (Ne.symm z3)]; exact z1
noncomputable def rdYE (fl : Bool) (X : Cx) (C : Addr) (av : Option Str) (b : YFs) : TE := fun σ H _ => ∃ ι σd Hd i Hd', SRep X.K H ι σ σd ∧ HRep X.K H ι Hd ∧ b σd Hd = some (i, Hd') ∧
 ∀ H1 ι' dx e s', Le X.K H ι H1 ι' -> HRep X.K H1 ι' Hd' -> Zs8 av i dx H1 ι' -> Zw0 fl X C dx H1 e s' -> X.xe e s'
noncomputable def PYE (fl : Bool) (X : Cx) (C : Addr) (av : Option Str) (e : Expr) (b : YFs) : Prop := PE X e (rdYE fl X C av b)
noncomputable def spY (K : PySem.W.Frag) (C : Addr) (av : Option Str) (n : Nat) (F : YFF) : Sp := fun vs H _ E => ∃ ι ds Hd i Hd', ds.length = n ∧ HRep K H ι Hd ∧ Paired (Rep K H ι) ds vs ∧ F ds Hd = some (i, Hd') ∧ ∀ H1 ι' dx, Le K H ι H1 ι' -> HRep K H1 ι' Hd' -> Zs8 av i dx H1 ι' -> E (.ref C) dx H1
noncomputable def Zex (n : Nat) (F : YFF) (fa : AF) : YFs := fun σ H => (fa σ H).bind fun p => if p.1.length = n then F p.1 p.2 else none
theorem Ztt {f : Addr} {k n : Nat} {fd : FuncData} {ps : List Str} {F : YFF} {fa : AF} {x : Str} {a : Expr} {as : List Expr} {p cp : Pos} (G : FnOk X.prog X.w X.K X.mg X.base (CXy X.prog X.w) k f fd ps (spY X.K C av n F)) (hr : Room k X.A) (hg : Gl X x) (hm : X.mg x = some (.ref f)) (hk : PySem.W.keepIn X.K (.ref f) = true) (hb : Ze2 X.K fd ps []) (ha : PAf X.nox (a :: as) fa)
  (hdb : (x == ("__debug__" : Str)) = false := by decide) (he : starEach (a :: as) X.env = (false, eval a X.env) :: starEach as X.env := by exact Zao rfl) (hpl : (backTo cp (starEach as X.env)).any (·.1) = false := by exact Zbs rfl) : PYE fl X C av (.Call (.Name x p) (a :: as) [] cp) (Zex n F fa) := by
 rintro pins s σ H D I ⟨ι, σd, Hd, i, H2, ss, hh, eq, q⟩
 obtain ⟨⟨ds, H1⟩, e1, e⟩ := Zo eq
 have hx : ds.length = n ∧ F ds H1 = some (i, H2) := by
  dsimp only at e
  split at e
  ·rename_i z; exact ⟨z, e⟩
  ·cases e
 obtain ⟨e2, e3⟩ := hx
 refine wpAny_Call_Name_kw (Zdc I hg hm ?_ hdb)
 refine PySem.W.callWith_K (h₀ := X.base) I.ok.mod.kin hk (wpAny_mono (ha cp pins s σ H (fun vs H' => ∃ ι', Le X.K H ι H' ι' ∧ HRep X.K H' ι' H1 ∧ Paired (Rep X.K H' ι') ds vs) (I.wish _) ⟨ι, σd, Hd, ds, H1, ss, hh, e1, fun vs H' ι' l h P => ⟨ι', l, h, P⟩⟩) (fun us s1 z => ?_) fun _ _ z => z.elim) he hpl
 obtain ⟨vs, H1v, I1, r1, ι1, l1, h1, P1⟩ := z
 have I1 : Inv X pins σ H1v s1 := I1.unwish
 refine ⟨I1.kIn, ?_⟩
 have sp : spY X.K C av n F vs H1v (fun _ _ => False) fun Cv dx H' => Cv = .ref C ∧ ∃ ι', Le X.K H ι H' ι' ∧ HRep X.K H' ι' H2 ∧ Zs8 av i dx H' ι' := ⟨ι1, ds, H1, i, H2, e2, h1, P1, e3, fun H' ι' dx l h z => ⟨rfl, ι', l1.trans l, h, z⟩⟩
 have hl : us.length = ps.length := by rw [← r1.length]; exact G.len _ _ _ _ sp
 have hb1 := hb s1 us I1.kIn (by rw [List.append_nil]; exact hl)
 rw [List.append_nil] at hb1
 refine wpAny_call (codeAny_mono (G.run X.A X.stack s1 H1v ⟨us, []⟩ us vs _ _ hr I1.env0 hb1 r1 sp) fun r s' hq => ?_)
 cases r with
 | ok fl' =>
  cases fl' with
  | ret u => obtain ⟨v, H', _, _, _, _, _, z⟩ := hq; exact z.elim
  | next => exact False.elim hq
  | brk => exact False.elim hq
  | cont => exact False.elim hq
 | error e =>
  obtain ⟨ex, Cv, dx, H2v, rfl, ⟨rfl, ι2, l2, h2, xd⟩, os, bare, un, hok, fl⟩ := hq
  exact q H2v ι2 dx (.ref ex) s' l2 h2 xd ⟨pins, σ, ex, rfl, .inr ⟨s1, H1v, I1, os, bare, un, hok, fl⟩⟩
theorem Zw4 {e : Expr} {b : YFs} (h : PYE fl X C av e b) : PYS fl X C av (.Return (some e) pos) b := PSi (Zuz h) fun E σ H z => z
end
section
variable {P : Program} {w : World} {K : PySem.W.Frag} {mg : Str -> Option Value} {base : Heap}
theorem Zti {N : List Str} {qual : Str} {scope : Scope} {f : Addr} {cd : Value} {A : Around} {outer : List Env} {s s' : Shared} {H H1 : Hp} {E : XK} {C : Addr} {dx : Option Addr} {e : Value} {fl : Bool} (z : Zw0 fl (Zfe (CXy P w) P w K mg base N qual scope f cd A outer s H E) C dx H1 e s') (q : E (.ref C) dx H1) :
  (Zfe (CXy P w) P w K mg base N qual scope f cd A outer s H E).xe e s' := by
 obtain ⟨pins, σ1, a, rfl, z⟩ := z
 rcases z with ⟨_, oe, vs, I, g1, g2, g3, g4, g5, g6, g7⟩ | ⟨s1, H0, I, os, bare, un, hok, fl⟩
 ·exact Zo0 I g1 g4 g5 g6 g7 (by rw [g2, g3]; exact q)
 ·exact Zpg I os bare un hok fl q
theorem fy_f {x qual : Str} {st : Stmt} {f C : Addr} {fd : FuncData} {N ps : List Str} {k : Nat} {b : YFs} {av : Option Str} (F : Fun K x qual st f fd) (S : FnScope N ps (Zad st))
  (hb : ∀ (cdv : Value) (A : Around) (outer : List Env) (s : Shared) (H : Hp) (E : XK), Room k (A.deeper (envOfC qual (Zad st) s.heap.objs.size f cdv)) →
   PYf false (Zfe (CXy P w) P w K mg base N qual (Zad st) f cdv A outer s H E) C av (Zby st) b) : FnOk P w K mg base (CXy P w) (k + 1) f fd ps (spY K C av ps.length (Zsb ps.length N.length b)) := by
 obtain ⟨oc, od, kV, doc, pm, an, cdv, ct, osl, rfl, lk, hcd⟩ := F.ex
 refine Ya6 lk hcd S (fun vs H Q E ⟨ι, ds, Hd, i, Hd', hl, _, r, _⟩ => by rw [← Prd.len r]; exact hl) fun A outer s H vs Q E hr zz => ?_
 obtain ⟨ι, ds, Hd, i, Hd', hl, hh, r, e, q⟩ := zz
 refine ⟨_, hb cdv A outer s H E hr, ?_⟩
 unfold Zsb at e
 rw [if_pos hl] at e
 refine ⟨ι, _, Hd, i, Hd', ?_, hh, e, fun H1 ι' dx ex s' l h xd z => Zti z (q H1 ι' dx l h xd)⟩
 refine ⟨by simp [L2.start, Prd.len r], fun i d0 h0 => ?_⟩
 unfold L2.start
 by_cases hi : i < ds.length
 ·rw [List.getElem?_append_left (by simpa using hi), List.getElem?_map] at h0
  cases ed : ds[i]? with
  | none => rw [ed] at h0; cases h0
  | some d1 =>
   rw [ed] at h0
   cases h0
   obtain ⟨v, hv, rv⟩ := Prd.get r ed
   refine ⟨v, ?_, rv⟩
   rw [List.getElem?_append_left (by rw [List.length_map, ← Prd.len r]; exact hi), List.getElem?_map, hv]
   rfl
 ·rw [List.getElem?_append_right (by simpa using hi), List.getElem?_replicate] at h0
  split at h0 <;> cases h0
structure FnY (P : Program) (w : World) (K : PySem.W.Frag) (mg : Str -> Option Value) (base : Heap) (k : Nat) (x : Str) (ps : List Str) (xn : Str) (av : Option Str) (F : YFF) : Prop where
 ex : ∃ f fd, (∀ C, mg xn = some (.ref C) -> FnOk P w K mg base (CXy P w) k f fd ps (spY K C av ps.length F)) ∧ Ze2 K fd ps [] ∧ PySem.W.keepIn K (.ref f) = true ∧ mg x = some (.ref f)
theorem Zy4 {x xn : Str} {st : Stmt} {N ps : List Str} {k : Nat} {b : YFs} {av : Option Str} (T : Tf K mg x st) (S : FnScope N ps (Zad st))
  (hbd : ∀ (kV doc pm : Value) (an : Option Addr) (cdv ct : Value) (us : List Value), us.length = ps.length -> bindArgs (PySem.W.fnOf x x (Zek st) (Zby st) (Zad st) .none kV doc pm an cdv ct) ⟨us, []⟩ = pure (ps.zip us))
  (hb : ∀ C, mg xn = some (.ref C) -> ∀ (f : Addr) (cdv : Value) (A : Around) (outer : List Env) (s : Shared) (H : Hp) (E : XK), Room k (A.deeper (envOfC x (Zad st) s.heap.objs.size f cdv)) →
   PYf false (Zfe (CXy P w) P w K mg base N x (Zad st) f cdv A outer s H E) C av (Zby st) b) : FnY P w K mg base (k + 1) x ps xn av (Zsb ps.length N.length b) := by
 obtain ⟨f, fd, F, hm⟩ := T
 exact ⟨f, fd, fun C E => fy_f F S fun cdv A outer s H E1 hr => hb C E f cdv A outer s H E1 hr, F.binds hbd, F.kp, hm⟩
theorem Ybc {X : Cx} {fl : Bool} {C : Addr} {av : Option Str} {k n : Nat} {ps : List Str} {F : YFF} {fa : AF} {x xn : Str} {a : Expr} {as : List Expr} {p cp : Pos} (G : FnY X.prog X.w X.K X.mg X.base k x ps xn av F) (hE : X.mg xn = some (.ref C)) (hr : Room k X.A) (ha : PAf X.nox (a :: as) fa)
  (hg : Gl X x := by rfl) (hdb : (x == ("__debug__" : Str)) = false := by decide) (he : starEach (a :: as) X.env = (false, eval a X.env) :: starEach as X.env := by exact Zao rfl) (hpl : (backTo cp (starEach as X.env)).any (·.1) = false := by exact Zbs rfl) (hn : ps.length = n := by rfl) : PYE fl X C av (.Call (.Name x p) (a :: as) [] cp) (Zex n F fa) := by
 subst hn
 obtain ⟨f, fd, G1, hb, hk, hm⟩ := G.ex
 exact Ztt (G1 C hE) hr hg hm hk hb ha hdb he hpl
end
theorem Zs8.mono {K : Frag} {av : Option Str} {i : Int} {dx : Option Addr} {H H' : Hp} {ι ι' : List Addr} (h : Zs8 av i dx H ι) (l : Le K H ι H' ι') : Zs8 av i dx H' ι' := by
 cases av with
 | none => exact h
 | some f =>
  obtain ⟨d, rfl, g, n⟩ := h
  obtain ⟨g', n'⟩ := l.frame d _ g n
  exact ⟨d, rfl, g', n'⟩
structure Sx (iE : Nat) (ex : Addr) (av : Option Str) (i : Int) (dx : Option Addr) (σ : L2.St) (H : Hp) (ι : List Addr) : Prop where
 at_ : σ[iE]? = some (some (.ref ex))
 xd : Zs8 av i dx H ι
noncomputable def rdEx (K : Frag) (iE : Nat) (ex : Addr) (av : Option Str) (i : Int) (dx : Option Addr) (f : EF) : TE := fun σ H Q => ∃ ι σd Hd d Hd', Sx iE ex av i dx σ H ι ∧ SRep K H ι σ σd ∧ HRep K H ι Hd ∧ f σd Hd = some (d, Hd') ∧ QE K H ι d Hd' Q
noncomputable def rdAx (K : Frag) (iE : Nat) (ex : Addr) (av : Option Str) (i : Int) (dx : Option Addr) (f : AF) : TA := fun σ H Q => ∃ ι σd Hd ds Hd', Sx iE ex av i dx σ H ι ∧ SRep K H ι σ σd ∧ HRep K H ι Hd ∧ f σd Hd = some (ds, Hd') ∧ ∀ vs H' ι', Le K H ι H' ι' -> HRep K H' ι' Hd' -> Paired (Rep K H' ι') ds vs -> Q vs H'
noncomputable def QSx (K : Frag) (iE : Nat) (ex : Addr) (av : Option Str) (i : Int) (dx : Option Addr) (H : Hp) (ι : List Addr) (fl : FD) (σd' : SD) (Hd' : HD) (E : Ends) : Prop := ∀ σ' H' ι', Le K H ι H' ι' -> HRep K H' ι' Hd' -> SRep K H' ι' σ' σd' -> Sx iE ex av i dx σ' H' ι' →
 match fl with
 | .nx => E.nx σ' H'
 | .bk => E.bk σ' H'
 | .ct => E.ct σ' H'
 | .rt d => ∀ v, Rep K H' ι' d v -> E.rt v H'
noncomputable def rdSx (K : Frag) (iE : Nat) (ex : Addr) (av : Option Str) (i : Int) (dx : Option Addr) (f : SF) : TS := fun E σ H => ∃ ι σd Hd fl σd' Hd', Sx iE ex av i dx σ H ι ∧ SRep K H ι σ σd ∧ HRep K H ι Hd ∧ f σd Hd = some (fl, σd', Hd') ∧ QSx K iE ex av i dx H ι fl σd' Hd' E
section
variable {X : Cx} {iE : Nat} {ex : Addr} {av : Option Str} {i : Int} {dx : Option Addr} {e : Expr} {es : List Expr} {pos : Pos} {st : Stmt} {sts : List Stmt}
noncomputable def PEx (X : Cx) (iE : Nat) (ex : Addr) (av : Option Str) (i : Int) (dx : Option Addr) (e : Expr) (f : EF) : Prop := PE X e (rdEx X.K iE ex av i dx f)
noncomputable def PAx (X : Cx) (iE : Nat) (ex : Addr) (av : Option Str) (i : Int) (dx : Option Addr) (es : List Expr) (f : AF) : Prop := PA X es (rdAx X.K iE ex av i dx f)
noncomputable def PSx (X : Cx) (iE : Nat) (ex : Addr) (av : Option Str) (i : Int) (dx : Option Addr) (st : Stmt) (f : SF) : Prop := PS X st (rdSx X.K iE ex av i dx f)
noncomputable def Zzf (X : Cx) (iE : Nat) (ex : Addr) (av : Option Str) (i : Int) (dx : Option Addr) (st : List Stmt) (f : SF) : Prop := PSs X st (rdSx X.K iE ex av i dx f)
theorem Yaz {f : EF} (h : PEf X e f) : PEx X iE ex av i dx e f := PEi h fun σ H Q ⟨ι, σd, Hd, d, Hd', _, s, hr, e, q⟩ => ⟨ι, σd, Hd, d, Hd', s, hr, e, q⟩
theorem Zqn : PAx X iE ex av i dx [] Zae := PAi Zh1 fun σ H Q ⟨ι, σd, Hd, d, Hd', _, s, hr, e, q⟩ => ⟨ι, σd, Hd, d, Hd', s, hr, e, q⟩
theorem Zgz {f : EF} {g : AF} (ha : PEx X iE ex av i dx e f) (hr : PAx X iE ex av i dx es g) (hs : starEach (e :: es) X.env = (false, eval e X.env) :: starEach es X.env := by exact Zao rfl) : PAx X iE ex av i dx (e :: es) (Zaa f g) := by
 refine PAi (Zb4 ha hr hs) fun σ H Q zz => ?_
 obtain ⟨ι, σd, Hd, d, Hd', sx, s, hr, e, q⟩ := zz
 obtain ⟨⟨x, H1⟩, e1, e⟩ := Zo e
 obtain ⟨⟨y, H2⟩, e2, e⟩ := Zm e
 cases e
 exact ⟨ι, σd, Hd, x, H1, sx, s, hr, e1, fun v1 H1' ι1 l1 h1 r1 => ⟨ι1, σd, H1, y, H2, ⟨sx.at_, sx.xd.mono l1⟩, s.mono l1, h1, e2, fun vs H2' ι2 l2 h2 r2 => q _ H2' ι2 (l1.trans l2) h2 (.cons (r1.mono l2) r2)⟩⟩
theorem Zrh {f : AF} (h : PAx X iE ex av i dx es f) : PEx X iE ex av i dx (.List es pos) (Zch f) := by
 refine PEi (Zt6 h) fun σ H Q zz => ?_
 obtain ⟨ι, σd, Hd, d, Hd', sx, s, hr, e, q⟩ := zz
 obtain ⟨⟨x, H1⟩, e1, e⟩ := Zo e
 exact ⟨ι, σd, Hd, x, H1, sx, s, hr, e1, fun vs H' ι' l h r => Zee h r e fun v2 H2 ι2 l2 h2 r2 => q v2 H2 ι2 (l.trans l2) h2 r2⟩
theorem Zm1 : Zzf X iE ex av i dx [] Zak := by
 refine Zx5 Zrb fun E σ H zz => ?_
 obtain ⟨ι, σd, Hd, fl, σd', Hd', sx, s, hr, e, q⟩ := zz
 cases e
 exact q σ H ι Le.refl hr s sx
theorem Zg9 {f g : SF} (h1 : PSx X iE ex av i dx st f) (h2 : Zzf X iE ex av i dx sts g) : Zzf X iE ex av i dx (st :: sts) (Zaf f g) := by
 refine Zx5 (Zfg h1 h2) fun E σ H zz => ?_
 obtain ⟨ι, σd, Hd, fl, σd', Hd', sx, s, hr, e, q⟩ := zz
 obtain ⟨⟨f1, σ1, H1⟩, e1, e⟩ := Zo e
 refine ⟨ι, σd, Hd, f1, σ1, H1, sx, s, hr, e1, fun σ' H' ι' l h ss sx' => ?_⟩
 cases f1 with
 | nx => exact ⟨ι', σ1, H1, fl, σd', Hd', sx', ss, h, e, fun σ2 H2 ι2 l2 h2 s2 => q σ2 H2 ι2 (l.trans l2) h2 s2⟩
 | bk => cases e; exact q σ' H' ι' l h ss sx'
 | ct => cases e; exact q σ' H' ι' l h ss sx'
 | rt d => cases e; exact q σ' H' ι' l h ss sx'
theorem Zl8 {j : Nat} {x : Str} {f : EF} {pos' : Pos} (hN : X.N.Nodup) (hi : X.N[j]? = some x) (hne : j ≠ iE) (hx : Loc X.env.scope x) (he : PEx X iE ex av i dx e f) (hs : swapsWith e (some (.Name x pos')) pos.line X.env = pure false := by rfl) (hf : X.fn x = true ∨ X.env.scope.names.lookup x = some .local := by first | exact .inl rfl | exact .inr rfl) :
  PSx X iE ex av i dx (.Assign [.Name x pos'] e pos) (Zav j f) := by
 refine PSi (Zuc hN hi hx he hs hf) fun E σ H zz => ?_
 obtain ⟨ι, σd, Hd, fl, σd', Hd', sx, s, hr, e, q⟩ := zz
 obtain ⟨⟨y, H1⟩, e1, e⟩ := Zm e
 cases e
 refine ⟨ι, σd, Hd, y, H1, sx, s, hr, e1, fun v H' ι' l h r => q _ H' ι' l h ((s.mono l).set r j) ⟨?_, sx.xd.mono l⟩⟩
 rw [List.getElem?_set_ne hne]
 exact sx.at_
theorem Ztr {C Cl fI : Addr} {oe : Obj} {f en : Str} {p : Pos} (T : ExI X.K C Cl fI f) (L : ExcL X.K C) (hc : oe.cls = .ref C) (hv : ∃ vs, oe.data = .fields vs) (hd : oe.dict = dx) (hi : X.N[iE]? = some en) (vE : Vis X.env.scope en) (hb : attributeBase (.Name en p) f X.env (eval (.Name en p) X.env) = eval (.Name en p) X.env)
  (dE : (en == ("__debug__" : Str)) = false := by decide) (dE2 : (en == ("__classdict__" : Str)) = false := by decide) : PEx (Xh X ex oe) iE ex (some f) i dx (.Attribute (.Name en p) f pos) (eC (.int i)) := by
 rintro pins s σ H Q I ⟨ι, σd, Hd, d, Hd', sx, ss, hr, e, q⟩
 cases e
 refine Zov hb (thn (Zff (X := Xh X ex oe) hi vE dE dE2 pins s σ H (fun v H' => v = .ref ex ∧ H' = H) I ⟨_, sx.at_, rfl, rfl⟩) fun u s1 z => ?_)
 obtain ⟨v, H', I1, rv, rfl, rfl⟩ := z
 have rv : u = .ref ex := rv
 subst rv
 have pn := I1.pin (ex, oe) (List.mem_append_left _ (List.mem_cons_self ..))
 obtain ⟨d, rfl, g, n⟩ := sx.xd
 obtain ⟨mA, n1, r1⟩ := I1.hok d _ g
 have r2 := r1 f
 rw [List.lookup_cons_self] at r2
 obtain ⟨u, hu, ru⟩ : ∃ u, mA f = some u ∧ Zb2 (.int i) u := by
  cases z : mA f with
  | none => rw [z] at r2; exact r2.elim
  | some u => rw [z] at r2; exact ⟨u, rfl, r2⟩
 obtain ⟨od, ho, hl⟩ := Zj4 n1
 obtain ⟨c, hc2, Y⟩ := Zh0 I1.kIn T.xin
 obtain ⟨nm, qn, N, bs, sn, sub, ab, col, dd, k0, k1, k2, k3, k5, hC, rfl⟩ := Y.obj
 have J : InstAt s1.heap ex oe C (some od) := ⟨pn.1, hc, by obtain ⟨vs, hv⟩ := hv; unfold notCls; rw [hv], by rw [hd]; exact ho⟩
 have hh : hasDictIn X.K C = true := by unfold hasDictIn; rw [hc2]; rfl
 obtain ⟨t, rfl⟩ := ru
 exact Zmw L I1.kIn J (findObj_own hh T.nf rfl (by rw [hl, hu])) rfl ⟨.int i, H', I1.tok _, ⟨_, rfl⟩, q _ H' ι Le.refl hr (by simp)⟩
theorem Zv8 {C : Addr} {oe : Obj} {en xn : Str} {cV : Addr} {b : Bool} {p1 p2 p3 p4 : Pos} (L : ExcL X.K C) (hc : oe.cls = .ref C) (hk : kitOne X.K (.ref C) (.ref cV) = some b) (hi : X.N[iE]? = some en) (vE : Vis X.env.scope en) (mI : X.mg "isinstance" = none) (mX : X.mg xn = some (.ref cV)) (gI : Gl X "isinstance" := by rfl) (gX : Gl X xn := by rfl)
  (dE : (en == ("__debug__" : Str)) = false := by decide) (dE2 : (en == ("__classdict__" : Str)) = false := by decide) (dX : (xn == ("__debug__" : Str)) = false := by decide) : PEx (Xh X ex oe) iE ex av i dx (.Call (.Name "isinstance" p1) [.Name en p2, .Name xn p3] [] p4) (eC (.bl b)) := by
 have e2 : PE (Xh X ex oe) (.Call (.Name "isinstance" p1) [.Name en p2, .Name xn p3] [] p4) _ := Zfu (Zqm (c := .ref cV) (cV := .ref cV) L hc (fun u r => r) hk) gI mI boot_isinstance (Zb4 (Zff hi vE dE dE2) (Zb4 (Zjh (v := .ref cV) gX mX rfl dX) Zh6 rfl) rfl)
 refine PEi e2 fun σ H Q zz => ?_
 obtain ⟨ι, σd, Hd, d, Hd', sx, s, hr, e, q⟩ := zz
 cases e
 exact ⟨.ref ex, sx.at_, rfl, q _ H ι Le.refl hr (by simp)⟩
theorem Zsp {C : Addr} {oe : Obj} {en : Str} {b : Bool} {p1 p2 p3 p4 : Pos} (L : ExcL X.K C) (hc : oe.cls = .ref C) (hk : kitOne X.K (.ref C) (.type "ValueError") = some b) (hi : X.N[iE]? = some en) (vE : Vis X.env.scope en) (mI : X.mg "isinstance" = none) (mX : X.mg "ValueError" = none) (bV : bootBuiltins "ValueError" = some (.type "ValueError")) (gI : Gl X "isinstance" := by rfl) (gX : Gl X "ValueError" := by rfl)
  (dE : (en == ("__debug__" : Str)) = false := by decide) (dE2 : (en == ("__classdict__" : Str)) = false := by decide) : PEx (Xh X ex oe) iE ex av i dx (.Call (.Name "isinstance" p1) [.Name en p2, .Name "ValueError" p3] [] p4) (eC (.bl b)) := by
 have e2 : PE (Xh X ex oe) (.Call (.Name "isinstance" p1) [.Name en p2, .Name "ValueError" p3] [] p4) _ := Zfu (Zqm (c := .ty "ValueError") (cV := .type "ValueError") L hc (fun u r => r) hk) gI mI boot_isinstance (Zb4 (Zff hi vE dE dE2) (Zb4 (Zqr (v := .ty "ValueError") gX mX bV rfl) Zh6 rfl) rfl)
 refine PEi e2 fun σ H Q zz => ?_
 obtain ⟨ι, σd, Hd, d, Hd', sx, s, hr, e, q⟩ := zz
 cases e
 exact ⟨.ref ex, sx.at_, rfl, q _ H ι Le.refl hr (by simp)⟩
theorem Zr5 {C : Addr} {oe : Obj} {en : Str} {es : List Expr} {cs : List Addr} {b : Bool} {x1 : Nat} {p1 p2 p3 p4 : Pos} (L : ExcL X.K C) (hc : oe.cls = .ref C) (hk : kitAny X.K (.ref C) (cs.map .ref) = some b) (hz : cs.length ≤ 1000) (hcl : PA (Xh X ex oe) es (Zqi cs)) (hi : X.N[iE]? = some en) (vE : Vis X.env.scope en) (mI : X.mg "isinstance" = none) (gI : Gl X "isinstance" := by rfl)
  (dE : (en == ("__debug__" : Str)) = false := by decide) (dE2 : (en == ("__classdict__" : Str)) = false := by decide) : PEx (Xh X ex oe) iE ex av i dx (.Call (.Name "isinstance" p1) [.Name en p2, .Tuple es x1 p3] [] p4) (eC (.bl b)) := by
 have e2 : PE (Xh X ex oe) (.Call (.Name "isinstance" p1) [.Name en p2, .Tuple es x1 p3] [] p4) _ := Zfu (Zwc (cs := cs) L hc hk) gI mI boot_isinstance (Zb4 (Zff hi vE dE dE2) (Zb4 (Zu6 hcl) Zh6 rfl) rfl)
 refine PEi e2 fun σ H Q zz => ?_
 obtain ⟨ι, σd, Hd, d, Hd', sx, s, hr, e, q⟩ := zz
 cases e
 refine ⟨.ref ex, sx.at_, ?_, fun p hp => ⟨p, rfl, L2.upd_same, ?_⟩⟩
 ·rw [List.length_map, PySem.sizeLine_eq]; omega
 exact q _ _ ι (Le.fresh hp _) (hr.tup hp _) (by simp)
end
noncomputable def Zmj (iE : Nat) (b : SF) (y : YFs) (su : Int -> SF) : SF := fun σ H => match b σ H with
 | some r => some r
 | none => (y σ H).bind fun p => (su p.1 (σ.set iE none) p.2).bind fun r => match r.1 with
  | .nx => some (.nx, r.2.1.set iE none, r.2.2)
  | _ => none
section
variable {X : Cx} {iE : Nat} {av : Option Str}
theorem Zr6 {C f : Addr} {k n : Nat} {fd : FuncData} {ps : List Str} {F : YFF} {fa : AF} {x xc nm : Str} {cV : Value} {b₀ : Stmt} {suite : List Stmt} {a : Expr} {as : List Expr} {su : Int -> SF} {p cp np hp : Pos} {pins : List (Addr × Obj)} {s : Shared} {σ : L2.St} {H : Hp} {D : Ends} {Q : Value -> Shared -> Prop}
  (hstk : X.stack = X.env :: X.outer) (hfr : X.env.frame = some X.env.locals)
  (G : FnOk X.prog X.w X.K X.mg X.base (CXy X.prog X.w) k f fd ps (spY X.K C av n F)) (hr : Room k X.A) (hg : Gl X x) (hm : X.mg x = some (.ref f)) (hk : PySem.W.keepIn X.K (.ref f) = true) (hb : Ze2 X.K fd ps [])
  (ha : PAf X.nox (a :: as) fa) (hgc : Gl X xc) (hmc : X.mg xc = some cV) (hex : exmOne X.K (.ref C) cV = some true)
  (hN : X.N.Nodup) (hi : X.N[iE]? = some nm) (hloc : X.env.scope.names.lookup nm = some .local) (hkl : X.env.kindOf nm = some .local)
  (hS : ∀ (i : Int) (ex : Addr) (oe : Obj), oe.cls = .ref C -> (∃ vs, oe.data = .fields vs) -> Zzf (Xh X ex oe) iE ex av i oe.dict (b₀ :: suite) (su i))
  (hdb : (x == ("__debug__" : Str)) = false) (hdc : (xc == ("__debug__" : Str)) = false) (he : starEach (a :: as) X.env = (false, eval a X.env) :: starEach as X.env) (hpl : (backTo cp (starEach as X.env)).any (·.1) = false)
  (I : Inv X pins σ H s) (z : ∃ ι σd Hd i H2 fl σ2 H3, SRep X.K H ι σ σd ∧ HRep X.K H ι Hd ∧ Zex n F fa σd Hd = some (i, H2) ∧ su i (σd.set iE none) H2 = some (fl, σ2, H3) ∧ fl = .nx ∧ QS X.K H ι .nx (σ2.set iE none) H3 D) :
  wpAny (model X.prog X.w) X.A (eval (.Call (.Name x p) (a :: as) [] cp) X.env) Q (fun e s1 => wpAny (model X.prog X.w) X.A (noteFrame e X.env) (fun _ s2 => wpAny (model X.prog X.w) X.A (setFlight e none) (fun _ s3 => wpAny (model X.prog X.w) X.A (handleBy e X.env [.ExceptHandler (some (.Name xc np)) (some nm) (b₀ :: suite) hp]) (SP X pins D) X.xe s3) X.xe s2) X.xe s1) s := by
 obtain ⟨ι, σd, Hd, i, H2, fl, σ2, H3, ss, hh, e1, e4, rfl, q⟩ := z
 obtain ⟨⟨ds, H1⟩, e1, e⟩ := Zo e1
 have hx : ds.length = n ∧ F ds H1 = some (i, H2) := by
  dsimp only at e
  split at e
  ·rename_i z; exact ⟨z, e⟩
  ·cases e
 obtain ⟨e2, e3⟩ := hx
 refine wpAny_Call_Name_kw (Zdc I hg hm ?_ hdb)
 refine PySem.W.callWith_K (h₀ := X.base) I.ok.mod.kin hk (wpAny_mono (ha cp pins s σ H (fun vs H' => ∃ ι', Le X.K H ι H' ι' ∧ HRep X.K H' ι' H1 ∧ Paired (Rep X.K H' ι') ds vs) (I.wish _) ⟨ι, σd, Hd, ds, H1, ss, hh, e1, fun vs H' ι' l h P => ⟨ι', l, h, P⟩⟩) (fun us s1 z => ?_) fun _ _ z => z.elim) he hpl
 obtain ⟨vs, H1v, I1, r1, ι1, l1, h1, P1⟩ := z
 have I1 : Inv X pins σ H1v s1 := I1.unwish
 refine ⟨I1.kIn, ?_⟩
 have sp : spY X.K C av n F vs H1v (fun _ _ => False) fun Cv dx H' => Cv = .ref C ∧ ∃ ι', Le X.K H ι H' ι' ∧ HRep X.K H' ι' H2 ∧ Zs8 av i dx H' ι' := ⟨ι1, ds, H1, i, H2, e2, h1, P1, e3, fun H' ι' dx l h z => ⟨rfl, ι', l1.trans l, h, z⟩⟩
 have hl : us.length = ps.length := by rw [← r1.length]; exact G.len _ _ _ _ sp
 have hb1 := hb s1 us I1.kIn (by rw [List.append_nil]; exact hl)
 rw [List.append_nil] at hb1
 refine wpAny_call (codeAny_mono (G.run X.A X.stack s1 H1v ⟨us, []⟩ us vs _ _ hr I1.env0 hb1 r1 sp) fun r s' hq => ?_)
 cases r with
 | ok fl' =>
  cases fl' with
  | ret u => obtain ⟨v, H', _, _, _, _, _, z⟩ := hq; exact z.elim
  | next => exact False.elim hq
  | brk => exact False.elim hq
  | cont => exact False.elim hq
 | error e =>
  obtain ⟨ex, Cv, dx, H2v, rfl, ⟨rfl, ι2, l2, h2, xd⟩, os, bare, un, hok, fl⟩ := hq
  obtain ⟨B, fly, bo, bt⟩ := fl.fly
  rw [hstk] at fly
  have new : s1.heap.get? ex = none := fl.new
  have frA : X.A.frames = some (X.env :: X.outer) := by rw [← hstk]; exact I1.ok.frames
  refine Zqq frA hfr fly fun h4 held4 up4 => ?_
  refine Zev (s := { s' with heap := h4 }) held4 fun h5 fly5 up5 => ?_
  have ff : s'.heap.FunFrames B X.stack := by rw [hstk]; exact fly.ff
  obtain ⟨un5, ok5⟩ := Zlc un hok bo bt fly5.st (up4.trans up5) ff
  have I5 : Inv X pins σ H2v { s' with heap := h5 } := I1.call' (s' := { s' with heap := h5 }) (ch := []) os un5 ok5 bare (fun b z => absurd z (by simp))
  have exH : H2v ex = none := by
   cases z : H2v ex with
   | none => rfl
   | some ho =>
    obtain ⟨o, _, g⟩ := bt ex ho z
    rw [fly.no] at g; cases g
  have ne : ex ≠ X.env.locals := fun z => by
   obtain ⟨m, ⟨o, _, _, g, _⟩, _⟩ := I1.loc
   rw [← z, new] at g; cases g
  have nf : ex ∉ X.fs := fun z => by
   obtain ⟨_, o, g, _⟩ := I1.funs.mem z
   rw [new] at g; cases g
  obtain ⟨ob, wb, gob, cob, dob, _⟩ := fly5.first
  have I5m : Inv (Xh X ex ob) pins σ H2v { s' with heap := h5 } := Inv.marked I5 gob exH ne nf fun v z => by rw [dob] at z; cases z
  refine wpAny_handleBy_cons (codeAny_handlers_test (Zdc (X := Xh X ex ob) I5m hgc hmc ?_ hdc)) (by intro z; cases z)
  have LT : Looks (model X.prog X.w) h5 (typeOf (.ref ex)) (.ref C) := by rw [← cob]; exact (Looks.ld gob).andThen .now
  refine (exm_one (M := model X.prog X.w) I5.kIn LT hex).here ?_
  refine codeAny_handlers_suite_as ?_
  refine Zev (s := { s' with heap := h5 }) fly5 fun h6 fly6 up6 => ?_
  obtain ⟨un6, ok6⟩ := Zlc un hok bo bt fly6.st ((up4.trans up5).trans up6) ff
  have I6 : Inv X pins σ H2v { s' with heap := h6 } := I1.call' (s' := { s' with heap := h6 }) (ch := []) os un6 ok6 bare (fun b z => absurd z (by simp))
  obtain ⟨oe, ws, goe, coe, doe, eoe⟩ := fly6.first
  have I6m : Inv (Xh X ex oe) pins σ H2v { s' with heap := h6 } := Inv.marked I6 goe exH ne nf fun v z => by rw [doe] at z; cases z
  refine Zg3 (X := Xh X ex oe) I6m hN hi (.inl hloc) (v := .ref ex) rfl (fun s7 I7 => ?_) (.inr hloc)
  have li : iE < σ.length := by rw [I6.len]; exact (List.getElem?_eq_some_iff.mp hi).1
  have sr : SRep X.K H2v ι2 (σ.set iE (some (.ref ex))) (σd.set iE none) := by
   have s2 := ss.mono l2
   refine ⟨by simp [s2.len], fun j d hd => ?_⟩
   by_cases hj : j = iE
   ·subst hj
    rw [List.getElem?_set] at hd
    split at hd
    ·split at hd <;> cases hd
    ·rename_i z; exact absurd rfl z
   ·rw [List.getElem?_set_ne (Ne.symm hj)] at hd ⊢
    exact s2.var j d hd
  have st := hS i ex oe coe ⟨ws, doe⟩ pins s7 (σ.set iE (some (.ref ex))) H2v { nx := fun σ8 H8 => D.nx (σ8.set iE none) H8, rt := fun _ _ => False } I7 ⟨ι2, _, H2, .nx, σ2, H3, ⟨List.getElem?_set_self li, by rw [eoe]; exact xd⟩, sr, h2, e4, fun σ8 H8 ι8 l8 h8 s8 sx8 => ?_⟩
  ·refine wpAny_mono st (fun f s8 z => ?_) fun _ _ z => z.elim
   cases f with
   | next =>
    obtain ⟨σ8, H8, I8, z⟩ := z
    exact Zxm (Inv.unmark I1.ok I8) hN hi hkl fun s9 I9 => ⟨_, _, I9, z⟩
   | ret u => obtain ⟨v, σ8, H8, I8, r, z⟩ := z; exact z.elim
   | brk => obtain ⟨σ8, H8, I8, z⟩ := z; exact z.elim
   | cont => obtain ⟨σ8, H8, I8, z⟩ := z; exact z.elim
  ·refine q (σ8.set iE none) H8 ι8 (l2.trans l8) h8 ⟨by simp [s8.len], fun j d hd => ?_⟩
   by_cases hj : j = iE
   ·subst hj
    rw [List.getElem?_set] at hd
    split at hd
    ·split at hd <;> cases hd
    ·rename_i z; exact absurd rfl z
   ·rw [List.getElem?_set_ne (Ne.symm hj)] at hd ⊢
    exact s8.var j d hd
end
section
variable {X : Cx} {iE : Nat} {av : Option Str} {C : Addr} {k : Nat} {ps : List Str} {F : YFF} {fa : AF} {x xn xc nm : Str} {cV : Value} {b₀ : Stmt} {suite : List Stmt} {a : Expr} {as : List Expr} {b : SF} {su : Int -> SF} {p cp ep np hp pos : Pos}
theorem Ya3 {body : List Stmt} {pins : List (Addr × Obj)} {s : Shared} {σ : L2.St} {H : Hp} {D : Ends} {y : YFs} (hb0 : Zlr X.nox body b) (I : Inv X pins σ H s) (z : rdS X.K (Zmj iE b y su) D σ H)
  (q : (∃ ι σd Hd i H2 fl σ2 H3, SRep X.K H ι σ σd ∧ HRep X.K H ι Hd ∧ y σd Hd = some (i, H2) ∧ su i (σd.set iE none) H2 = some (fl, σ2, H3) ∧ fl = .nx ∧ QS X.K H ι .nx (σ2.set iE none) H3 D) -> wpAny (model X.prog X.w) X.A (exec (.Try body [.ExceptHandler (some (.Name xc np)) (some nm) (b₀ :: suite) hp] [] [] pos) X.env) (SP X pins D) X.xe s) :
  wpAny (model X.prog X.w) X.A (exec (.Try body [.ExceptHandler (some (.Name xc np)) (some nm) (b₀ :: suite) hp] [] [] pos) X.env) (SP X pins D) X.xe s := by
 obtain ⟨ι, σd, Hd, fl, σd', Hd', ss, hr, e, qq⟩ := z
 unfold Zmj at e
 split at e
 ·rename_i r e1
  cases e
  refine wpAny_Try_except (wpAny_mono (hb0 pins s σ H D (I.wish _) ⟨ι, σd, Hd, _, _, _, ss, hr, e1, qq⟩) (fun f s1 z => ?_) fun _ _ z => z.elim)
  have z : SP X pins D f s1 := z.unwish
  cases f with
  | next => exact wpAny_execs_nil z
  | brk => exact z
  | cont => exact z
  | ret u => exact z
 ·obtain ⟨⟨i, H2⟩, e1, e⟩ := Zo e
  obtain ⟨⟨fl2, σ2, H3⟩, e2, e⟩ := Zo e
  refine q ⟨ι, σd, Hd, i, H2, fl2, σ2, H3, ss, hr, e1, e2, ?_⟩
  cases fl2 with
  | nx => cases e; exact ⟨rfl, qq⟩
  | bk => cases e
  | ct => cases e
  | rt d => cases e
theorem Zmq (hb0 : Zlr X.nox [.Expr (.Call (.Name x p) (a :: as) [] cp) ep] b) (G : FnY X.prog X.w X.K X.mg X.base k x ps xn av F) (hE : X.mg xn = some (.ref C)) (hr : Room k X.A) (ha : PAf X.nox (a :: as) fa) (hmc : X.mg xc = some cV) (hex : exmOne X.K (.ref C) cV = some true)
  (hN : X.N.Nodup) (hi : X.N[iE]? = some nm) (hloc : X.env.scope.names.lookup nm = some .local) (hS : ∀ (i : Int) (ex : Addr) (oe : Obj), oe.cls = .ref C -> (∃ vs, oe.data = .fields vs) -> Zzf (Xh X ex oe) iE ex av i oe.dict (b₀ :: suite) (su i))
  (hstk : X.stack = X.env :: X.outer := by rfl) (hfr : X.env.frame = some X.env.locals := by rfl) (hg : Gl X x := by rfl) (hgc : Gl X xc := by rfl) (hdb : (x == ("__debug__" : Str)) = false := by decide) (hdc : (xc == ("__debug__" : Str)) = false := by decide)
  (he : starEach (a :: as) X.env = (false, eval a X.env) :: starEach as X.env := by exact Zao rfl) (hpl : (backTo cp (starEach as X.env)).any (·.1) = false := by exact Zbs rfl) (hs : swapsWith (.Call (.Name x p) (a :: as) [] cp) none ep.line X.env = pure false := by rfl) :
  PSf X (.Try [.Expr (.Call (.Name x p) (a :: as) [] cp) ep] [.ExceptHandler (some (.Name xc np)) (some nm) (b₀ :: suite) hp] [] [] pos) (Zmj iE b (Zex ps.length F fa) su) := by
 intro pins s σ H D I z
 obtain ⟨f, fd, G1, hb, hk, hm⟩ := G.ex
 refine Ya3 hb0 I z fun z => ?_
 exact wpAny_Try_except (wpAny_execs_cons (wpAny_Expr_any (Zr6 hstk hfr (G1 C hE) hr hg hm hk hb ha hgc hmc hex hN hi hloc hloc hS hdb hdc he hpl I z) I.quiet hs))
end
section
variable {X : Cx}
theorem Yae {tg iter : Expr} {t : TI} (h : PI X.nox tg iter t) : PI X tg iter t := fun pins s σ H R I q =>
 wpAny_mono (h pins s σ H R (I.wish _) q) (fun v s1 z => wpAny_mono z (fun itv s2 ⟨it, fp, tn, J, H', e, I', T, st, f, r⟩ => ⟨it, fp, tn, J, H', e, I'.unwish, T, st, f, r⟩) fun _ _ y => False.elim y) fun _ _ y => False.elim y
theorem Zy8 {tg : Expr} {t : TG} (h : PG X.nox tg t) : PG X tg t := fun pins s σ H v u Q I r q =>
 wpAny_mono (h pins s σ H v u Q (I.wish _) r q) (fun _ s1 ⟨σ', H', I', z⟩ => ⟨σ', H', I'.unwish, z⟩) fun _ _ y => False.elim y
variable {fl : Bool} {C : Addr} {av : Option Str} {st : Stmt} {sts : List Stmt} {c : Expr} {pos : Pos}
theorem Zmy {f : SF} {b : YFs} (h1 : PSf X.nox st f) (h2 : PYf fl X C av sts b) : PYf fl X C av (st :: sts) (Zxp f b) := Zv2 (Zzg h1) h2
theorem Zzx {t : TF} {as bs : List Stmt} {a b : YFs} (hc : PTf X.nox c t) (ha : PYf fl X C av as a) (hb : PYf fl X C av bs b) : PYS fl X C av (.If c as bs pos) (yIf t a b) := py_if (PT.nox hc) ha hb
theorem Zw3 {tg iter : Expr} {body : List Stmt} {f : ItF} {g : GF} {b : SF} {yb : YFs} (hp : PassesOwn (model X.prog X.w) X.A X.env X.xe) (hc : X.calm = true) (hi : PIf X.nox tg iter f) (hg : PGf X.nox tg g) (hb : Zlr X.nox body b) (hy : PYf fl X C av body yb)
  (hs : ∀ x, foldedSetIterable iter X.env x = pure x := by intro _; rfl) : PYS fl X C av (.For tg iter body [] pos) (Zza f g b yb) := Zym hp hc (Yae hi) (Zy8 hg) (PSs.nox hb) hy hs
end
theorem po_cx {P : Program} {w : World} {K : PySem.W.Frag} {mg : Str -> Option Value} {base : Heap} {N : List Str} {qual : Str} {scope : Scope} {f : Addr} {cd : Value} {A : Around} {outer : List Env} {s : Shared} {H : Hp} {E : XK} {CX : CXT} :
  PassesOwn (model P w) (Zfe CX P w K mg base N qual scope f cd A outer s H E).A (Zfe CX P w K mg base N qual scope f cd A outer s H E).env (Zfe CX P w K mg base N qual scope f cd A outer s H E).xe := PassesOwn.leaving
noncomputable def Zpt (s : Stmt) : List Stmt := match s with
 | .ClassDef _ _ _ body _ _ _ _ _ _ _ => body
 | _ => []
structure YCl (K : Frag) (mg : Str -> Option Value) (xn f qual : Str) (st : Stmt) (C Cl fI : Addr) : Prop where
 bound : mg xn = some (.ref C)
 kp : keepIn K (.ref C) = true
 ini : ExI K C Cl fI f
 base : mg "ClaimError" = some (.ref Cl)
 fn : ∃ fd, Fun K "__init__" qual st fI fd
 look : ExcL K C
structure YRs (P : Program) (w : World) (K : Frag) (mg : Str -> Option Value) (base : Heap) (xn f : Str) (k : Nat) : Prop where
 ex : ∃ C Cl fI fd ps, mg xn = some (.ref C) ∧ keepIn K (.ref C) = true ∧ ExI K C Cl fI f ∧ FnOk P w K mg base CX0 k fI fd ps (spI C f) ∧ Ze2 K fd ps [] ∧ ExcL K C
section
variable {X : Cx} {C : Addr} {f xn : Str} {k : Nat}
theorem YRs.at {P : Program} {w : World} {K : Frag} {mg : Str -> Option Value} {base : Heap} (R : YRs P w K mg base xn f k) (hE : mg xn = some (.ref C)) : ∃ Cl fI fd ps, keepIn K (.ref C) = true ∧ ExI K C Cl fI f ∧ FnOk P w K mg base CX0 k fI fd ps (spI C f) ∧ Ze2 K fd ps [] ∧ ExcL K C := by
 obtain ⟨C', Cl, fI, fd, ps, h1, h2, h3, h4, h5, h6⟩ := R.ex
 rw [hE] at h1
 cases h1
 exact ⟨Cl, fI, fd, ps, h2, h3, h4, h5, h6⟩
theorem Zpo {e : Expr} {fe : EF} {np cpos pos : Pos} (R : YRs X.prog X.w X.K X.mg X.base xn f k) (hE : X.mg xn = some (.ref C)) (hc : X.calm = true) (hr : Room (k + 1) X.A) (hf : PAf X.nox [e] (Zaa fe Zae)) (hg : Gl X xn := by rfl) (hdb : (xn == ("__debug__" : Str)) = false := by decide) (he : starEach [e] X.env = (false, eval e X.env) :: starEach [] X.env := by exact Zao rfl) :
  PYS false X C (some f) (.Raise (some (.Call (.Name xn np) [e] [] cpos)) none pos) (Ziv fe) := by
 obtain ⟨Cl, fI, fd, ps, h2, h3, h4, h5, h6⟩ := R.at hE
 exact Zs1 hc h3 h4 hr hE h2 h5 (Zz0 hf) hg hdb he
theorem Zrm {iE : Nat} {ex : Addr} {i : Int} {dx : Option Addr} {oe : Obj} {en : Str} {p pos : Pos} (R : YRs X.prog X.w X.K X.mg X.base xn f k) (hE : X.mg xn = some (.ref C)) (hc : oe.cls = .ref C) (hv : ∃ vs, oe.data = .fields vs) (hd : oe.dict = dx) (hi : X.N[iE]? = some en) (vE : Vis X.env.scope en) (hb : attributeBase (.Name en p) f X.env (eval (.Name en p) X.env) = eval (.Name en p) X.env := by rfl)
  (dE : (en == ("__debug__" : Str)) = false := by decide) (dE2 : (en == ("__classdict__" : Str)) = false := by decide) : PEx (Xh X ex oe) iE ex (some f) i dx (.Attribute (.Name en p) f pos) (eC (.int i)) := by
 obtain ⟨Cl, fI, fd, ps, h2, h3, h4, h5, h6⟩ := R.at hE
 exact Ztr h3 h6 hc hv hd hi vE hb dE dE2
theorem Zva {K : Frag} {hp : Heap} {mg : Str → Option Value} {xn f qual : Str} {st : Stmt} {C Cl fI : Addr} {oc : Value} {od an : Option Addr} {osl : Array (Option Value)} {kV doc pm cdv ct : Value} {cd : ClassData} (X : K.In hp) (G : hp.Ns mainGlobals mg) (a : nsIn K mainGlobals xn = some (some (.ref C))) (b : nsIn K mainGlobals "ClaimError" = some (some (.ref Cl))) (c : keepIn K (.ref C) = true)
  (d : Zsd K C Cl = true) (e : findIn K (.ref C) "__init__" = some (some (.ref fI))) (f1 : typeIn K (.ref fI) = some (.type "function")) (g : findIn K (.ref C) "__setattr__" = some (some (.builtin "object.__setattr__"))) (h : findIn K (.ref C) f = some none)
  (i : specialIn K (.ref Cl) "__getattribute__" = some (some (.builtin "type.__getattribute__"))) (j : readsIn K Cl (.type "type") = true) (l : findCls K (.ref Cl) (.type "type") "__init__" = some (.val (.builtin "ValueError.__init__")))
  (m : K.lookup fI = some ⟨oc, od, .func (PySem.W.fnOf "__init__" qual (Zek st) (Zby st) (Zad st) .none kV doc pm an cdv ct), osl⟩) (n : PySem.W.codeIn K cdv qual = true) (o : PySem.W.keepIn K (.ref fI) = true)
  (p : findIn K (.ref C) "__getattribute__" = some (some (.builtin "BaseException.__getattribute__"))) (q : findIn K (.ref C) "__getattr__" = some none) (r : findIn K (.ref C) "__class__" = some (some (.builtin "object.__class__"))) (s : specialIn K (.builtin "object.__class__") "__get__" = some (some (.builtin "getset_descriptor.__get__")))
  (t : takesIn K (.builtin "object.__class__") = some true) (u : mroIn K C (.type "object") = some true) (v : subIn K (.ref C) (.type "BaseException") = some true) (w : clsIn K C = some cd) : YCl K mg xn f qual st C Cl fI :=
 ⟨PySem.W.mg_of X G a, c, ⟨d, e, f1, g, h, i, j, l⟩, PySem.W.mg_of X G b, ⟨_, Zu1 m n o⟩, ⟨p, q, r, s, t, u, v, by rw [w]; rfl⟩⟩
end
noncomputable def Zwl (K : Frag) (mg : Str → Option Value) (xn : Str) (cs : List Addr) : Prop := ∀ C, mg xn = some (.ref C) → kitAny K (.ref C) (cs.map .ref) = some false ∧ kitOne K (.ref C) (.type "ValueError") = some true
theorem Zu7 {K : Frag} {hp : Heap} {mg : Str → Option Value} {xn : Str} {C : Addr} {cs : List Addr} (X : K.In hp) (G : hp.Ns mainGlobals mg) (a : nsIn K mainGlobals xn = some (some (.ref C))) (r : kitAny K (.ref C) (cs.map .ref) = some false) (s : kitOne K (.ref C) (.type "ValueError") = some true) : Zwl K mg xn cs := by
 intro C' h
 rw [Zd3 X G a] at h
 cases h
 exact ⟨r, s⟩
section
variable {X : Cx} {C : Addr} {f xn : Str} {k : Nat} {iE : Nat} {ex : Addr} {i : Int} {dx : Option Addr} {av : Option Str} {oe : Obj} {en : Str} {cs : List Addr}
theorem Zqd {p1 p2 p3 p4 : Pos} (R : YRs X.prog X.w X.K X.mg X.base xn f k) (hE : X.mg xn = some (.ref C)) (J : Zwl X.K X.mg xn cs) (hc : oe.cls = .ref C) (mI : X.mg "isinstance" = none) (mX : X.mg "ValueError" = none) (hi : X.N[iE]? = some en) (vE : Vis X.env.scope en) (gI : Gl X "isinstance" := by rfl) (gX : Gl X "ValueError" := by rfl)
  (dE : (en == ("__debug__" : Str)) = false := by decide) (dE2 : (en == ("__classdict__" : Str)) = false := by decide) : PEx (Xh X ex oe) iE ex av i dx (.Call (.Name "isinstance" p1) [.Name en p2, .Name "ValueError" p3] [] p4) (eC (.bl true)) := by
 obtain ⟨Cl, fI, fd, ps, h2, h3, h4, h5, h6⟩ := R.at hE
 exact Zsp h6 hc (J C hE).2 hi vE mI mX (by decide +kernel) gI gX dE dE2
theorem Zkl {es : List Expr} {x1 : Nat} {p1 p2 p3 p4 : Pos} (R : YRs X.prog X.w X.K X.mg X.base xn f k) (hE : X.mg xn = some (.ref C)) (J : Zwl X.K X.mg xn cs) (hc : oe.cls = .ref C) (hz : cs.length ≤ 1000) (mI : X.mg "isinstance" = none) (hi : X.N[iE]? = some en) (vE : Vis X.env.scope en) (hcl : PA (Xh X ex oe) es (Zqi cs)) (gI : Gl X "isinstance" := by rfl)
  (dE : (en == ("__debug__" : Str)) = false := by decide) (dE2 : (en == ("__classdict__" : Str)) = false := by decide) : PEx (Xh X ex oe) iE ex av i dx (.Call (.Name "isinstance" p1) [.Name en p2, .Tuple es x1 p3] [] p4) (eC (.bl false)) := by
 obtain ⟨Cl, fI, fd, ps, h2, h3, h4, h5, h6⟩ := R.at hE
 exact Zr5 h6 hc (J C hE).1 hz hcl hi vE mI gI dE dE2
end
noncomputable abbrev Xm (X : Cx) (ex : Addr) : Cx := { X with A := X.A.mark (some (.ref ex)), calm := false, xe := fun _ _ => False }
section
variable {X : Cx} {pins : List (Addr × Obj)} {σ : L2.St} {H : Hp} {s : Shared} {ex C : Addr} {o : Obj}
theorem Inv.told (I : Inv X pins σ H s) (n : H ex = none) (g : s.heap.get? ex = some o) (hc : o.cls = .ref C) (new : X.s₀.heap.get? ex = none) (ne : ex ≠ X.env.locals) (nc : ∀ x c, X.env.cells.lookup x = some c -> c ≠ ex) (np : ∀ p ∈ X.pn ++ pins, p.1 ≠ ex) : Inv X pins σ (upd H ex (.ext (Zge ex C))) s := by
 have k : ∀ b ho, H b = some ho -> upd H ex (.ext (Zge ex C)) b = some ho := fun b ho z => by rw [Zah (Zai z n)]; exact z
 have fr : ∀ b, b ≠ ex -> H b = none -> upd H ex (.ext (Zge ex C)) b = none := fun b h z => by rw [Zah h]; exact z
 refine ⟨I.ok, I.os, I.bare, ⟨I.base.keep, I.base.slot, fun b o eb n hx => fr b (fun z => by rw [z, new] at eb; cases eb) (I.base.free b o eb n hx), I.base.there, fun b xs z => k b _ (I.base.tups b xs z), fun b o u z => k b _ (I.base.frzs b o u z), fun b ps z => let ⟨m, q⟩ := I.base.tbls b ps z; ⟨m, k b _ q⟩⟩, I.loc, I.cell, fr _ (Ne.symm ne) I.free, fun x c z => fr c (nc x c z) (I.freeC x c z), fun p hp => ?_, fun b ho z => ?_, I.len⟩
 ·obtain ⟨a1, a2, a3⟩ := I.pin p hp
  exact ⟨a1, fr _ (np p hp) a2, a3⟩
 ·by_cases hb : b = ex
  ·subst hb
   rw [upd_same] at z
   cases z
   exact ⟨⟨o, g, hc⟩, ⟨o, g⟩, fun h1 h2 z1 z2 => let ⟨o1, g1, c1⟩ := z1; ⟨o1, z2 o1 g1, c1⟩⟩
  ·rw [Zah hb] at z
   exact (I.hok b ho z).stay (fun c v _ r => r) (fun c r => k c _ r) fun c xs r => k c _ r
theorem Inv.inM (I : Inv X pins σ H s) : Inv (Xm X ex) pins σ H s := by
 obtain ⟨o1, o2, o3, o4, o5, o6, o7, o8, o9, o10, o11, o12, o13, o14, o15, o16, o17, o18⟩ := I.ok
 exact ⟨⟨o1, o2, o3, o4, o5, o6, o7, o8, (fun z => by cases z), o10, o11, o12, o13, o14, o15, o16, o17, o18⟩, I.os, I.bare, I.base, I.loc, I.cell, I.free, I.freeC, I.pin, I.hok, I.len⟩
theorem Inv.outM (ok : X.Ok) (I : Inv (Xm X ex) pins σ H s) : Inv X pins σ H s :=
 ⟨ok, I.os, I.bare, I.base, I.loc, I.cell, I.free, I.freeC, I.pin, I.hok, I.len⟩
end
noncomputable def Zy1 (t : List (Str × Bool)) (fo : EF) : EF := fun σ H => (fo σ H).bind fun o => match o.1 with
 | .ref n => match o.2[n]? with
  | some (.exc c) => (t.lookup c).map fun b => (.bl b, o.2)
  | _ => none
 | _ => none
noncomputable def Is1 (K : Frag) (cV : Value) (t : List (Str × Bool)) : Prop := ∀ c b, t.lookup c = some b -> ∃ C, nsIn K mainGlobals c = some (some (.ref C)) ∧ kitOne K (.ref C) cV = some b
noncomputable def Zoi (K : Frag) (L : List Str) : Prop := ∀ cn ∈ L, ∃ C, nsIn K mainGlobals cn = some (some (.ref C)) ∧ ExcL K C
theorem Zze {t : List (Str × Bool)} {c : Str} {b : Bool} (h : t.lookup c = some b) : c ∈ t.map (·.1) := by
 induction t with
 | nil => cases h
 | cons p r ih =>
  rw [List.lookup_cons] at h
  split at h
  ·rename_i z; simp only [List.map_cons, List.mem_cons]; exact .inl (by simpa using z)
  ·exact List.mem_cons_of_mem _ (ih h)
section
variable {X : Cx}
theorem Zwz {c : V} {cV : Value} (hu : ∀ u, Zb2 c u → u = cV) : Zf1 X (.builtin "isinstance") (fun xs H Q => ∃ a C b, xs = [.ref a, c] ∧ H a = some (.ext (Zge a C)) ∧ ExcL X.K C ∧ kitOne X.K (.ref C) cV = some b ∧ Q (.bl b) H) := by
 rintro pins s σ H xs us Q I r ⟨a, C, b, rfl, hH, L, e, q⟩
 obtain ⟨u1, u2, rfl, r1, r2⟩ := Zn7 r
 have e1 : u1 = .ref a := r1
 subst e1
 obtain rfl := hu u2 r2
 obtain ⟨⟨o, g, hc⟩, _, _⟩ := I.hok a _ hH
 exact kia_one (Zi8 (ox := o) (x := a) L) I.kIn ⟨g, hc⟩ e (by rintro z; cases z) fun tk => ⟨.bl b, H, I.tok tk, rfl, q⟩
theorem Ya0 {t : List (Str × Bool)} {fo : EF} {σ : L2.St} {H : Hp} {Q : VK} {R : V -> Hp -> Prop} (z : rdE X.K (Zy1 t fo) σ H Q) (k : ∀ a c b, t.lookup c = some b -> ∀ H' ι' C, nsIn X.K mainGlobals c = some (some (.ref C)) -> H' a = some (.ext (Zge a C)) -> (∀ H'' , Le X.K H' ι' H'' ι' -> (∀ Hd, HRep X.K H' ι' Hd -> HRep X.K H'' ι' Hd) -> Q (.bl b) H'') -> R (.ref a) H') : rdE X.K fo σ H R := by
 obtain ⟨ι, σd, Hd, d, Hd', s, hr, e, q⟩ := z
 obtain ⟨⟨x, H1⟩, e1, e0⟩ := Zo e
 clear e
 refine ⟨ι, σd, Hd, x, H1, s, hr, e1, fun v H' ι' l h r => ?_⟩
 dsimp only at e0
 split at e0
 ·rename_i n
  split at e0
  ·rename_i c en
   obtain ⟨b, eb, e2⟩ := Zm e0
   cases e2
   obtain ⟨a, rfl, ha⟩ := Zau.mp r
   obtain ⟨a', ha', C, hns, hH⟩ := h.at en
   rw [ha] at ha'
   cases ha'
   exact k a c b eb H' ι' C hns hH fun H'' l2 h2 => q _ H'' ι' (l.trans l2) (h2 _ h) (by simp)
  ·cases e0
 ·cases e0
theorem Zvl {L : List Str} {t : List (Str × Bool)} {fo : EF} {o : Expr} {xn : Str} {c : Addr} {p1 p3 p4 : Pos} (E : Zoi X.K L) (hl : t.map (·.1) = L) (ho : PEf X o fo) (hm : X.mg xn = some (.ref c)) (J : Is1 X.K (.ref c) t) (mI : X.mg "isinstance" = none) (gI : Gl X "isinstance" := by rfl) (gX : Gl X xn := by rfl) (hd : (xn == ("__debug__" : Str)) = false := by decide) (he : starEach [o, .Name xn p3] X.env = (false, eval o X.env) :: starEach [.Name xn p3] X.env := by exact Zao rfl) :
  PEf X (.Call (.Name "isinstance" p1) [o, .Name xn p3] [] p4) (Zy1 t fo) := by
 refine PEi (Zfu (Zwz (c := .ref c) (cV := .ref c) fun u r => r) gI mI boot_isinstance (Zb4 ho (Zb4 (Zjh (v := .ref c) gX hm rfl hd) Zh6 rfl) he) (he := he)) fun σ H Q z => ?_
 refine Ya0 z fun a cn b eb H' ι' C hns hH q => ?_
 obtain ⟨C', h1, h3⟩ := J cn b eb
 rw [hns] at h1
 cases h1
 obtain ⟨C', h1, h2⟩ := E cn (hl ▸ Zze eb)
 rw [hns] at h1
 cases h1
 exact ⟨a, C, b, rfl, hH, h2, h3, q H' Le.refl fun _ z => z⟩
end
section
variable {K : Frag} {hp : Heap} {mg : Str -> Option Value} {xc cn : Str} {cV : Value} {C : Addr} {L : List Str} {t : List (Str × Bool)} {b : Bool} {cs : List Addr}
theorem Zzy : Zoi K [] := nofun
theorem Zec {cd : ClassData} (a : nsIn K mainGlobals cn = some (some (.ref C))) (g : findIn K (.ref C) "__getattribute__" = some (some (.builtin "BaseException.__getattribute__"))) (h : findIn K (.ref C) "__getattr__" = some none) (i : findIn K (.ref C) "__class__" = some (some (.builtin "object.__class__"))) (j : specialIn K (.builtin "object.__class__") "__get__" = some (some (.builtin "getset_descriptor.__get__")))
  (l : takesIn K (.builtin "object.__class__") = some true) (m : mroIn K C (.type "object") = some true) (n : subIn K (.ref C) (.type "BaseException") = some true) (o : clsIn K C = some cd) (r : Zoi K L) : Zoi K (cn :: L) := by
 intro c hc
 rcases List.mem_cons.mp hc with rfl | hc
 ·exact ⟨C, a, ⟨g, h, i, j, l, m, n, by rw [o]; rfl⟩⟩
 ·exact r c hc
theorem Zvm : Is1 K cV [] := nofun
theorem Zc1 (a : nsIn K mainGlobals cn = some (some (.ref C))) (s : kitOne K (.ref C) cV = some b) (r : Is1 K cV t) : Is1 K cV ((cn, b) :: t) := by
 intro c b' h
 rw [List.lookup_cons] at h
 split at h
 ·rename_i z
  cases h
  rw [show c = cn by simpa using z]
  exact ⟨C, a, s⟩
 ·exact r c b' h
end
noncomputable def Fv (K : Frag) (mg : Str -> Option Value) (x : String) : Prop := ∃ f, mg (Str.ofString x) = some (.ref f) ∧ nsIn K mainGlobals (Str.ofString x) = some (some (.ref f))
theorem fv_mk {K : Frag} {hp : Heap} {mg : Str -> Option Value} {x : String} {f : Addr} (X : K.In hp) (G : hp.Ns mainGlobals mg) (a : nsIn K mainGlobals (Str.ofString x) = some (some (.ref f))) : Fv K mg x := ⟨f, mg_of X G a, a⟩
noncomputable def Zki (i n : Nat) (x : String) (F : FF) (f : AF) : EF := fun σ H => match σ[i]? with
 | some (some (.ty y)) => if y = x then Zal n F f σ H else none
 | _ => none
section
variable {X : Cx} {k n i : Nat} {ps : List Str} {x : String} {v : Str} {p pos : Pos} {F : FF} {fa : AF} {e : Expr} {es : List Expr}
theorem Zo7 (h : Fv X.K X.mg x) (ht : Zut x = false := by decide) (hg : Gl X (Str.ofString x) := by rfl) (hd : (Str.ofString x == ("__debug__" : Str)) = false := by decide) : PEf X (.Name (Str.ofString x) pos) (eC (.ty x)) := by
 obtain ⟨f, h1, h2⟩ := h
 exact Zob (Zjh (v := .ref f) hg h1 rfl hd) fun _ _ => (Zul ht).mpr ⟨f, rfl, h2⟩
theorem Zqp (G : Fn X.prog X.w X.K X.mg X.base k (Str.ofString x) ps F) (hf : Fv X.K X.mg x) (hr : Room k X.A) (hv : PE X (.Name v p) (tVar i)) (ha : PAf X (e :: es) fa) (ht : Zut x = false := by decide)
  (he : starEach (e :: es) X.env = (false, eval e X.env) :: starEach es X.env := by exact Zao rfl) (hpl : (backTo pos (starEach es X.env)).any (·.1) = false := by exact Zbs rfl) (hn : ps.length = n := by rfl) :
  PEf X (.Call (.Name v p) (e :: es) [] pos) (Zki i n x F fa) := by
 subst hn
 intro pins s σ H Q I z
 obtain ⟨ι, σd, Hd, d, Hd', ss, hr0, eq, q⟩ := z
 unfold Zki at eq
 split at eq
 ·rename_i y hy
  split at eq
  ·rename_i ey
   subst ey
   obtain ⟨v0, h1, r⟩ := ss.var i _ hy
   obtain ⟨a, rfl, hns⟩ := (Zul ht).mp r
   obtain ⟨f', hm', hns'⟩ := hf
   rw [hns] at hns'
   cases hns'
   obtain ⟨f, fd, G1, hb, hk, hm, _⟩ := G.ex
   rw [hm'] at hm
   cases hm
   refine wpAny_Call_Name_kw (thn (hv pins s σ H (fun v' H' => v' = .ref a ∧ H' = H) I ⟨_, h1, rfl, rfl⟩) fun u s1 z => ?_)
   obtain ⟨v', H', I1, rv, rfl, rfl⟩ := z
   have rv : u = .ref a := rv
   subst rv
   have t : Yao (spF X.K ps.length F) [] E0 (rdA X.K fa) σ H' Q := by
    obtain ⟨⟨x, H1⟩, e1, e⟩ := Zo eq
    refine ⟨ι, σd, Hd, x, H1, ss, hr0, e1, fun vs H' ι' l h r => ?_⟩
    dsimp only at e
    split at e
    ·rename_i hl
     exact ⟨ι', x, H1, d, Hd', hl, h, by simpa using r, e, fun v2 H2 ι2 l2 h2 r2 => q v2 H2 ι2 (l.trans l2) h2 r2⟩
    ·cases e
   refine PySem.W.callWith_K (h₀ := X.base) I1.ok.mod.kin hk (thn (ha pos pins s1 σ H' _ I1 t) fun us s2 ⟨vs, H1, I2, r, q⟩ => ⟨I2.kIn, ?_⟩) he hpl
   exact Zuo G1 hr hb .nil Zye I2 r q
  ·cases eq
 ·cases eq
end
section
variable {X : Cx} {pins : List (Addr × Obj)} {σ : L2.St} {H : Hp} {s : Shared} {e C : Addr}
theorem Inv.weak {φ : Heap -> Prop} (I : Inv X pins σ H s) (he : H e = some (.ext φ)) (new : X.s₀.heap.get? e = none) (hc : Zge e C s.heap) : Inv X pins σ (upd H e (.ext (Zge e C))) s := by
 obtain ⟨o, g, hc⟩ := hc
 have I2 := Inv.told (ex := e) (C := C) (o := o) (Inv.drop I he new) (if_pos rfl) g hc new (fun z => by have y := I.free; rw [← z, he] at y; cases y) (fun x c z y => by have y2 := I.freeC x c z; rw [y, he] at y2; cases y2) (fun p hp z => by have y := (I.pin p hp).2.1; rw [z, he] at y; cases y)
 have eq : upd (fun b => if b = e then none else H b) e (.ext (Zge e C)) = upd H e (.ext (Zge e C)) := by
  funext b
  unfold upd
  by_cases z : b = e
  ·rw [if_pos z, if_pos z]
  ·rw [if_neg z, if_neg z]
   exact if_neg z
 rw [eq] at I2
 exact I2
theorem Zcg.there {P : Program} {w : World} {h : Heap} {a : Addr} {o : HO} (x : Zcg P w H h a o) : ∃ u, h.get? a = some u := by
 cases o with
 | lst xs => obtain ⟨_, _, _, _, e⟩ := x; exact ⟨_, e⟩
 | tup xs => obtain ⟨_, _, _, u, e, _⟩ := x; exact ⟨_, e⟩
 | dK kvs => obtain ⟨_, _, _, _, o, _, _, e, _⟩ := x; exact ⟨_, e⟩
 | dT kvs => obtain ⟨_, _, _, _, o, _, _, e, _⟩ := x; exact ⟨_, e⟩
 | set S n => obtain ⟨o, _, _, _, e, _⟩ := x; exact ⟨_, e⟩
 | ins C dx fs => obtain ⟨_, _, _, e, _⟩ := x; exact ⟨_, e⟩
 | own y => obtain ⟨_, e⟩ := x; exact ⟨_, e⟩
 | xd fs => obtain ⟨_, ⟨_, _, _, e, _⟩, _⟩ := x; exact ⟨_, e⟩
 | rng lo hi => obtain ⟨_, _, _, e⟩ := x; exact ⟨_, e⟩
 | frz ob u => obtain ⟨e, _⟩ := x; exact ⟨_, e⟩
 | tbl ps => exact ⟨_, (show h.get? a = some _ from x)⟩
 | met f y => exact ⟨_, (show h.get? a = some _ from x)⟩
 | ext φ => obtain ⟨_, ⟨_, e⟩, _⟩ := x; exact ⟨_, e⟩
theorem HOk.absent {P : Program} {w : World} {h : Heap} {a : Addr} (x : HOk P w H h) (n : h.get? a = none) : H a = none := by
 cases q : H a with
 | none => rfl
 | some u =>
  obtain ⟨o, g⟩ := Zcg.there (x a u q)
  rw [n] at g; cases g
theorem Inv.laidN {a : Addr} {o : HO} {h' : Heap} {t' : Nat} (I : Inv X pins σ H s) (k : ∀ b u, s.heap.get? b = some u -> h'.get? b = some u) (n : s.heap.get? a = none) (new : Zcg X.prog X.w (upd H a o) h' a o) : Inv X pins σ (upd H a o) { s with heap := h', toks := t' } := by
 have hn := HOk.absent I.hok n
 refine I.un ⟨fun b u q _ _ _ => k b u q, fun b u q _ _ _ => ⟨u.slots, k b u q⟩, fun b u q n2 _ => by rw [Zah (fun z => by rw [z, n] at q; cases q)]; exact n2, fun b u q _ => ⟨u, k b u q⟩, fun b xs q => by rw [Zah (Zai q hn)]; exact q, fun b u xs q => by rw [Zah (Zai q hn)]; exact q, fun b ps q => ⟨#[], by rw [Zah (Zai q hn), q]; simp⟩⟩ fun b u e => ?_
 by_cases hb : b = a
 ·subst hb; rw [upd_same] at e; cases e; exact new
 ·rw [Zah hb] at e
  exact (I.hok b u e).stay (fun c v _ q => k c v q) (fun c q => by rw [Zah (Zai q hn)]; exact q) fun c xs q => by rw [Zah (Zai q hn)]; exact q
end
noncomputable def Xn (K : Frag) (mg : Str -> Option Value) (x : Str) : Prop := ∃ C, ExcT K mg x C ∧ nsIn K mainGlobals x = some (some (.ref C))
noncomputable def Yn (K : Frag) (mg : Str -> Option Value) (x : Str) : Prop := ∃ C, mg x = some (.ref C) ∧ nsIn K mainGlobals x = some (some (.ref C))
theorem Zol {K : Frag} {hp : Heap} {mg : Str → Option Value} {x : Str} {C : Addr} (X : K.In hp) (G : hp.Ns mainGlobals mg) (a : nsIn K mainGlobals x = some (some (.ref C))) (f : keepIn K (.ref C) = true) (p : excIn K C [.type "ValueError", .type "Exception", .type "BaseException", .type "object"] "ValueError.__new__" = true) : Xn K mg x := ⟨C, ⟨mg_of X G a, f, _, _, _, _, p, PySem.F.excBase_ValueError⟩, a⟩
theorem Zyo {K : Frag} {hp : Heap} {mg : Str -> Option Value} {x : Str} {C : Addr} (X : K.In hp) (G : hp.Ns mainGlobals mg) (a : nsIn K mainGlobals x = some (some (.ref C))) : Yn K mg x := ⟨C, mg_of X G a, a⟩
noncomputable def Zso (cn : Str) (f : EF) : EF := fun σ H => (f σ H).map fun r => (.ref r.2.length, r.2 ++ [.exc cn])
noncomputable def Zzk (cn : Str) (f : EF) : EF := fun σ H => (f σ H).bind fun r => match r.1 with
 | .int n => if n.natAbs < 1000000 then some (.ref r.2.length, r.2 ++ [.exc cn]) else none
 | _ => none
noncomputable def Zyf (f : EF) : EF := fun σ H => (f σ H).bind fun r => match r.1 with
 | .int n => if n.natAbs < 1000000 then some (.int n, r.2) else none
 | _ => none
section
variable {X : Cx} {x f : Str} {e : Expr} {fe : EF} {k : Nat} {p cp pos : Pos}
theorem Zwa (T : Xn X.K X.mg x) (hf : PAf X [e] (Zaa fe Zae)) (hg : Gl X x := by rfl) (hdb : (x == ("__debug__" : Str)) = false := by decide) (he : starEach [e] X.env = (false, eval e X.env) :: starEach [] X.env := by exact Zao rfl) (hpl : (backTo pos (starEach [] X.env)).any (·.1) = false := by rfl) :
  PEf X (.Call (.Name x p) [e] [] pos) (Zso x fe) := by
 intro pins s σ H Q I z
 obtain ⟨ι, σd, Hd, d, Hd', ss, hr, eq, q⟩ := z
 obtain ⟨⟨d0, H1⟩, e1, e2⟩ := Zm eq
 cases e2
 obtain ⟨C, T, hns⟩ := T
 obtain ⟨bm0, B, newId, initId, k1, FB⟩ := T.inK
 obtain ⟨tl, N, nm, qn, bs, hdct, sn, sub, ab, col, dd, k0, k1', k2, k3, k5, mN, hC, hN, hni, TL⟩ := (Yav I.ok.mod.kin T.bound k1).obj
 refine wpAny_Call_Name_kw (Zdc I hg T.bound ?_ hdb)
 have ea : Zaa fe Zae σd Hd = some ([d0], H1) := by unfold Zaa; rw [e1]; rfl
 refine PySem.W.callWith_K (h₀ := X.base) I.ok.mod.kin T.kp (thn (hf pos pins s σ H (fun vs H' => vs.length = 1 ∧ ∃ ι', Le X.K H ι H' ι' ∧ HRep X.K H' ι' H1) I ⟨ι, σd, Hd, [d0], H1, ss, hr, ea, fun vs H' ι' l h P => ⟨(Prd.len P).symm, ι', l, h⟩⟩) fun us s1 z => ?_) he hpl
 obtain ⟨vs, H1v, I1, r, hl, ι', l, h⟩ := z
 refine ⟨I1.kIn, ?_⟩
 have lus : us.length ≤ sizeLine := by rw [← r.length, hl, PySem.sizeLine_eq]; omega
 obtain ⟨h1, g1, d1, t1, o1⟩ := s1
 refine wpAny_call_exc_subT FB (TL.keeps I1.bk) (I1.bk _ _ hC) (hN.keeps I1.bk) hni (fun h' ex hm => ?_) lus
 obtain ⟨t, g, _, _⟩ := hm.there
 have n : H1v ex = none := HOk.absent I1.hok hm.new
 have I2 := Inv.laidN (a := ex) (o := .ext (Zge ex C)) (t' := t1) I1 hm.keeps hm.new ⟨⟨_, g, rfl⟩, ⟨_, g⟩, fun h1 h2 z1 z2 => let ⟨o1, g1, c1⟩ := z1; ⟨o1, z2 o1 g1, c1⟩⟩
 exact ⟨.ref ex, _, I2, rfl, q _ _ (ι' ++ [ex]) (l.trans (Le.fresh1 n _)) (h.new n ⟨C, hns, upd_same⟩) (Zau.mpr ⟨ex, rfl, by rw [← h.len]; simp⟩)⟩
theorem Zxq {H : Hp} {a : Addr} {u v : HO} : upd (upd H a u) a v = upd H a v := by
 funext b
 unfold upd
 by_cases z : b = a
 ·rw [if_pos z, if_pos z]
 ·rw [if_neg z, if_neg z, if_neg z]
theorem Zpa (R : YRs X.prog X.w X.K X.mg X.base x f k) (T : Yn X.K X.mg x) (hr : Room (k + 1) X.A) (hf : PAf X [e] (Zaa fe Zae)) (hg : Gl X x := by rfl) (hdb : (x == ("__debug__" : Str)) = false := by decide) (he : starEach [e] X.env = (false, eval e X.env) :: starEach [] X.env := by exact Zao rfl) :
  PEf X (.Call (.Name x p) [e] [] pos) (Zzk x fe) := by
 obtain ⟨C, hE, hns⟩ := T
 obtain ⟨Cl, fI, fd, ps, h2, h3, h4, h5, h6⟩ := R.at hE
 have P : PE X (.Call (.Name x p) [e] [] pos) _ := Zjy h3 h4 hr hg hE h2 h5 hf hdb he
 intro pins s σ H Q I z
 obtain ⟨ι, σd, Hd, d, Hd', ss, hh, eq, q⟩ := z
 obtain ⟨⟨d0, H1⟩, e1, e2⟩ := Zo eq
 dsimp only at e2
 split at e2
 ·rename_i n
  split at e2
  ·rename_i hn
   cases e2
   have ea : Zaa fe Zae σd Hd = some ([.int n], H1) := by unfold Zaa; rw [e1]; rfl
   refine thn (P pins s σ H (fun v H' => ∃ e φ, v = .ref e ∧ H' e = some (.ext φ) ∧ X.s₀.heap.get? e = none ∧ (∀ h, φ h -> Zge e C h) ∧ Q (.ref e) (upd H' e (.ext (Zge e C)))) I ⟨ι, σd, Hd, _, H1, ss, hh, ea, fun vs H1v ι' l h P => ?_⟩) fun u s1 z => ?_
   ·obtain ⟨v, rfl, rv⟩ : ∃ v, vs = [v] ∧ Rep X.K H1v ι' (.int n) v := by
     cases P with
     | cons a b => cases b; exact ⟨_, rfl, a⟩
    refine ⟨n, by rw [rep_int.mp rv], hn, fun ex dx z1 z2 z3 z4 => ⟨ex, _, rfl, upd_same, z4, fun h ⟨t, g⟩ => ⟨_, g, rfl⟩, ?_⟩⟩
    rw [Zxq]
    have z1' : upd H1v dx (.xd [(f, .int n)]) ex = none := by rw [Zah (Ne.symm z3)]; exact z1
    exact q _ _ (ι' ++ [ex]) ((l.trans (Le.fresh z2 _)).trans (Le.fresh1 z1' _)) ((h.tup z2 _).new z1' ⟨C, hns, upd_same⟩) (Zau.mpr ⟨ex, rfl, by rw [← h.len]; simp⟩)
   ·obtain ⟨v, H', I1, rv, e, φ, rfl, he, new, hφ, q⟩ := z
    exact ⟨.ref e, _, Inv.weak I1 he new (hφ _ (I1.hok e _ he).1), rv, q⟩
  ·cases e2
 ·cases e2
theorem Zrj (R : YRs X.prog X.w X.K X.mg X.base x f k) (T : Yn X.K X.mg x) (hr : Room (k + 1) X.A) (hf : PAf X [e] (Zaa fe Zae)) (hg : Gl X x := by rfl) (hdb : (x == ("__debug__" : Str)) = false := by decide) (he : starEach [e] X.env = (false, eval e X.env) :: starEach [] X.env := by exact Zao rfl)
  (hb : attributeBase (.Call (.Name x p) [e] [] cp) f X.env (eval (.Call (.Name x p) [e] [] cp) X.env) = eval (.Call (.Name x p) [e] [] cp) X.env := by rfl) : PEf X (.Attribute (.Call (.Name x p) [e] [] cp) f pos) (Zyf fe) := by
 obtain ⟨C, hE, hns⟩ := T
 obtain ⟨Cl, fI, fd, ps, h2, h3, h4, h5, h6⟩ := R.at hE
 have P : PE X (.Call (.Name x p) [e] [] cp) _ := Zjy h3 h4 hr hg hE h2 h5 hf hdb he
 intro pins s σ H Q I z
 obtain ⟨ι, σd, Hd, d, Hd', ss, hh, eq, q⟩ := z
 obtain ⟨⟨d0, H1⟩, e1, e2⟩ := Zo eq
 dsimp only at e2
 split at e2
 ·rename_i n
  split at e2
  ·rename_i hn
   cases e2
   have ea : Zaa fe Zae σd Hd = some ([.int n], Hd') := by unfold Zaa; rw [e1]; rfl
   refine Zov hb (thn (P pins s σ H (fun v H' => ∃ e dx, v = .ref e ∧ H' e = some (XE C (some dx) e) ∧ H' dx = some (.xd [(f, .int n)]) ∧ Q (.int n) H') I ⟨ι, σd, Hd, _, Hd', ss, hh, ea, fun vs H1v ι' l h P => ?_⟩) fun u s1 z => ?_)
   ·obtain ⟨v, rfl, rv⟩ : ∃ v, vs = [v] ∧ Rep X.K H1v ι' (.int n) v := by
     cases P with
     | cons a b => cases b; exact ⟨_, rfl, a⟩
    have z1' : ∀ {ex dx : Addr}, H1v ex = none -> dx ≠ ex -> upd H1v dx (.xd [(f, .int n)]) ex = none := fun z1 z3 => by rw [Zah (Ne.symm z3)]; exact z1
    refine ⟨n, by rw [rep_int.mp rv], hn, fun ex dx z1 z2 z3 z4 => ⟨ex, dx, rfl, upd_same, by rw [Zah z3]; exact upd_same, ?_⟩⟩
    exact q _ _ ι' ((l.trans (Le.fresh z2 _)).trans (Le.fresh (z1' z1 z3) _)) ((h.tup z2 _).tup (z1' z1 z3) _) (by simp)
   ·obtain ⟨v, H', I1, rv, ex, dx, rfl, hex, hdx, q⟩ := z
    have rv : u = .ref ex := rv
    subst rv
    obtain ⟨t, gx⟩ := Zsa I1.hok hex
    obtain ⟨mA, n1, r1⟩ := I1.hok dx _ hdx
    have r2 := r1 f
    rw [List.lookup_cons_self] at r2
    obtain ⟨u, hu, ru⟩ : ∃ u, mA f = some u ∧ Zb2 (.int n) u := by
     cases z : mA f with
     | none => rw [z] at r2; exact r2.elim
     | some u => rw [z] at r2; exact ⟨u, rfl, r2⟩
    obtain ⟨od, ho, hl⟩ := Zj4 n1
    obtain ⟨c, hc2, Y⟩ := Zh0 I1.kIn h3.xin
    obtain ⟨nm, qn, N, bs, sn, sub, ab, col, dd, k0, k1, k2, k3, k5, hC, rfl⟩ := Y.obj
    have J : InstAt s1.heap ex (Zj1 C (some dx) t) C (some od) := ⟨gx, rfl, rfl, ho⟩
    have hhd : hasDictIn X.K C = true := by unfold hasDictIn; rw [hc2]; rfl
    obtain ⟨t2, rfl⟩ := ru
    exact Zmw h6 I1.kIn J (findObj_own hhd h3.nf rfl (by rw [hl, hu])) rfl ⟨.int n, H', I1.tok _, ⟨_, rfl⟩, q⟩
  ·cases e2
 ·cases e2
end
noncomputable def Zmi (b : SF) (y : YFs) (su : SF) : SF := fun σ H => match b σ H with
 | some r => some r
 | none => (y σ H).bind fun p => su σ p.2
section
variable {X : Cx} {av : Option Str}
theorem Zou {C f : Addr} {k n : Nat} {fd : FuncData} {ps : List Str} {F : YFF} {fa : AF} {x xc : Str} {cV : Value} {b₀ : Stmt} {suite : List Stmt} {a : Expr} {as : List Expr} {su : SF} {p cp np hp : Pos} {pins : List (Addr × Obj)} {s : Shared} {σ : L2.St} {H : Hp} {D : Ends} {Q : Value -> Shared -> Prop}
  (hstk : X.stack = X.env :: X.outer) (hfr : X.env.frame = some X.env.locals)
  (G : FnOk X.prog X.w X.K X.mg X.base (CXy X.prog X.w) k f fd ps (spY X.K C av n F)) (hr : Room k X.A) (hg : Gl X x) (hm : X.mg x = some (.ref f)) (hk : PySem.W.keepIn X.K (.ref f) = true) (hb : Ze2 X.K fd ps [])
  (ha : PAf X.nox (a :: as) fa) (hgc : Gl X xc) (hmc : X.mg xc = some cV) (hex : exmOne X.K (.ref C) cV = some true)
  (hS : ∀ ex, Zlr (Xm X ex) (b₀ :: suite) su)
  (hdb : (x == ("__debug__" : Str)) = false) (hdc : (xc == ("__debug__" : Str)) = false) (he : starEach (a :: as) X.env = (false, eval a X.env) :: starEach as X.env) (hpl : (backTo cp (starEach as X.env)).any (·.1) = false)
  (I : Inv X pins σ H s) (z : ∃ ι σd Hd i H2 fl σ2 H3, SRep X.K H ι σ σd ∧ HRep X.K H ι Hd ∧ Zex n F fa σd Hd = some (i, H2) ∧ su σd H2 = some (fl, σ2, H3) ∧ QS X.K H ι fl σ2 H3 D) :
  wpAny (model X.prog X.w) X.A (eval (.Call (.Name x p) (a :: as) [] cp) X.env) Q (fun e s1 => wpAny (model X.prog X.w) X.A (noteFrame e X.env) (fun _ s2 => wpAny (model X.prog X.w) X.A (setFlight e none) (fun _ s3 => wpAny (model X.prog X.w) X.A (handleBy e X.env [.ExceptHandler (some (.Name xc np)) none (b₀ :: suite) hp]) (SP X pins D) X.xe s3) X.xe s2) X.xe s1) s := by
 obtain ⟨ι, σd, Hd, i, H2, fl, σ2, H3, ss, hh, e1, e4, q⟩ := z
 obtain ⟨⟨ds, H1⟩, e1, e⟩ := Zo e1
 have hx : ds.length = n ∧ F ds H1 = some (i, H2) := by
  dsimp only at e
  split at e
  ·rename_i z; exact ⟨z, e⟩
  ·cases e
 obtain ⟨e2, e3⟩ := hx
 refine wpAny_Call_Name_kw (Zdc I hg hm ?_ hdb)
 refine PySem.W.callWith_K (h₀ := X.base) I.ok.mod.kin hk (wpAny_mono (ha cp pins s σ H (fun vs H' => ∃ ι', Le X.K H ι H' ι' ∧ HRep X.K H' ι' H1 ∧ Paired (Rep X.K H' ι') ds vs) (I.wish _) ⟨ι, σd, Hd, ds, H1, ss, hh, e1, fun vs H' ι' l h P => ⟨ι', l, h, P⟩⟩) (fun us s1 z => ?_) fun _ _ z => z.elim) he hpl
 obtain ⟨vs, H1v, I1, r1, ι1, l1, h1, P1⟩ := z
 have I1 : Inv X pins σ H1v s1 := I1.unwish
 refine ⟨I1.kIn, ?_⟩
 have sp : spY X.K C av n F vs H1v (fun _ _ => False) fun Cv dx H' => Cv = .ref C ∧ ∃ ι', Le X.K H ι H' ι' ∧ HRep X.K H' ι' H2 := ⟨ι1, ds, H1, i, H2, e2, h1, P1, e3, fun H' ι' dx l h z => ⟨rfl, ι', l1.trans l, h⟩⟩
 have hl : us.length = ps.length := by rw [← r1.length]; exact G.len _ _ _ _ sp
 have hb1 := hb s1 us I1.kIn (by rw [List.append_nil]; exact hl)
 rw [List.append_nil] at hb1
 refine wpAny_call (codeAny_mono (G.run X.A X.stack s1 H1v ⟨us, []⟩ us vs _ _ hr I1.env0 hb1 r1 sp) fun r s' hq => ?_)
 cases r with
 | ok fl' =>
  cases fl' with
  | ret u => obtain ⟨v, H', _, _, _, _, _, z⟩ := hq; exact z.elim
  | next => exact False.elim hq
  | brk => exact False.elim hq
  | cont => exact False.elim hq
 | error e =>
  obtain ⟨ex, Cv, dx, H2v, rfl, ⟨rfl, ι2, l2, h2⟩, os, bare, un, hok, fy⟩ := hq
  obtain ⟨B, fly, bo, bt⟩ := fy.fly
  rw [hstk] at fly
  have frA : X.A.frames = some (X.env :: X.outer) := by rw [← hstk]; exact I1.ok.frames
  refine Zqq frA hfr fly fun h4 held4 up4 => ?_
  refine Zev (s := { s' with heap := h4 }) held4 fun h5 fly5 up5 => ?_
  have ff : s'.heap.FunFrames B X.stack := by rw [hstk]; exact fly.ff
  obtain ⟨un5, ok5⟩ := Zlc un hok bo bt fly5.st (up4.trans up5) ff
  have I5 : Inv X pins σ H2v { s' with heap := h5 } := I1.call' (s' := { s' with heap := h5 }) (ch := []) os un5 ok5 bare (fun b z => absurd z (by simp))
  obtain ⟨ob, wb, gob, cob, dob, _⟩ := fly5.first
  have I5m : Inv (Xm X ex) pins σ H2v { s' with heap := h5 } := Inv.inM I5
  refine wpAny_handleBy_cons (codeAny_handlers_test (Zdc (X := Xm X ex) I5m hgc hmc ?_ hdc)) (by intro z; cases z)
  have LT : Looks (model X.prog X.w) h5 (typeOf (.ref ex)) (.ref C) := by rw [← cob]; exact (Looks.ld gob).andThen .now
  refine (exm_one (M := model X.prog X.w) I5.kIn LT hex).here ?_
  refine codeAny_handlers_suite ?_
  refine Zev (s := { s' with heap := h5 }) fly5 fun h6 fly6 up6 => ?_
  obtain ⟨un6, ok6⟩ := Zlc un hok bo bt fly6.st ((up4.trans up5).trans up6) ff
  have I6 : Inv X pins σ H2v { s' with heap := h6 } := I1.call' (s' := { s' with heap := h6 }) (ch := []) os un6 ok6 bare (fun b z => absurd z (by simp))
  have I6m : Inv (Xm X ex) pins σ H2v { s' with heap := h6 } := Inv.inM I6
  have st := hS ex pins _ σ H2v D I6m ⟨ι2, σd, H2, fl, σ2, H3, ss.mono l2, h2, e4, fun σ8 H8 ι8 l8 h8 s8 => q σ8 H8 ι8 (l2.trans l8) h8 s8⟩
  refine wpAny_mono st (fun f s8 z => ?_) fun _ _ z => z.elim
  cases f with
  | next => obtain ⟨σ8, H8, I8, z⟩ := z; exact ⟨σ8, H8, Inv.outM I1.ok I8, z⟩
  | ret u => obtain ⟨v, σ8, H8, I8, r, z⟩ := z; exact ⟨v, σ8, H8, Inv.outM I1.ok I8, r, z⟩
  | brk => obtain ⟨σ8, H8, I8, z⟩ := z; exact ⟨σ8, H8, Inv.outM I1.ok I8, z⟩
  | cont => obtain ⟨σ8, H8, I8, z⟩ := z; exact ⟨σ8, H8, Inv.outM I1.ok I8, z⟩
theorem Zsy {C : Addr} {k : Nat} {ps : List Str} {F : YFF} {fa : AF} {x xn xc tn : Str} {cV : Value} {b₀ : Stmt} {suite : List Stmt} {a : Expr} {as : List Expr} {b su : SF} {p cp ep np hp tp pos : Pos}
  (hb0 : Zlr X.nox [.Assign [.Name tn tp] (.Call (.Name x p) (a :: as) [] cp) ep] b) (G : FnY X.prog X.w X.K X.mg X.base k x ps xn av F) (hE : X.mg xn = some (.ref C)) (hr : Room k X.A) (ha : PAf X.nox (a :: as) fa) (hmc : X.mg xc = some cV) (hex : exmOne X.K (.ref C) cV = some true) (hS : ∀ ex, Zlr (Xm X ex) (b₀ :: suite) su)
  (hstk : X.stack = X.env :: X.outer := by rfl) (hfr : X.env.frame = some X.env.locals := by rfl) (hg : Gl X x := by rfl) (hgc : Gl X xc := by rfl) (hdb : (x == ("__debug__" : Str)) = false := by decide) (hdc : (xc == ("__debug__" : Str)) = false := by decide)
  (he : starEach (a :: as) X.env = (false, eval a X.env) :: starEach as X.env := by exact Zao rfl) (hpl : (backTo cp (starEach as X.env)).any (·.1) = false := by exact Zbs rfl) (hs : swapsWith (.Call (.Name x p) (a :: as) [] cp) (some (.Name tn tp)) ep.line X.env = pure false := by rfl) :
  PSf X (.Try [.Assign [.Name tn tp] (.Call (.Name x p) (a :: as) [] cp) ep] [.ExceptHandler (some (.Name xc np)) none (b₀ :: suite) hp] [] [] pos) (Zmi b (Zex ps.length F fa) su) := by
 intro pins s σ H D I z
 obtain ⟨f, fd, G1, hb, hk, hm⟩ := G.ex
 obtain ⟨ι, σd, Hd, fl, σd', Hd', ss, hh, e, qq⟩ := z
 unfold Zmi at e
 split at e
 ·rename_i r e1
  cases e
  refine wpAny_Try_except (wpAny_mono (hb0 pins s σ H D (I.wish _) ⟨ι, σd, Hd, _, _, _, ss, hh, e1, qq⟩) (fun f s1 z => ?_) fun _ _ z => z.elim)
  have z : SP X pins D f s1 := z.unwish
  cases f with
  | next => exact wpAny_execs_nil z
  | brk => exact z
  | cont => exact z
  | ret u => exact z
 ·obtain ⟨⟨i, H2⟩, e1, e2⟩ := Zo e
  exact wpAny_Try_except (wpAny_execs_cons (wpAny_Assign_Name (Zou (Q := fun _ _ => False) hstk hfr (G1 C hE) hr hg hm hk hb ha hgc hmc hex hS hdb hdc he hpl I ⟨ι, σd, Hd, i, H2, fl, σd', Hd', ss, hh, e1, e2, qq⟩ |> fun h => wpAny_mono h (fun _ _ z => z.elim) fun _ _ z => z) hs))
end
section
variable {X : Cx} {iE : Nat} {ex : Addr} {av : Option Str} {i : Int} {dx : Option Addr} {a b : Expr} {pos : Pos}
theorem Zzh {op : Operator} {g : F2} {fa fb : EF} (ho : OpF X (binaryOp op) g) (ha : PEx X iE ex av i dx a fa) (hb : PEx X iE ex av i dx b fb) : PEx X iE ex av i dx (.BinOp a op b pos) (eOp g fa fb) := by
 refine PEi (Zz8 ho ha hb) fun σ H Q zz => ?_
 obtain ⟨ι, σd, Hd, d, Hd', sx, s, hr, e, q⟩ := zz
 obtain ⟨⟨x, H1⟩, e1, e⟩ := Zo e
 obtain ⟨⟨y, H2⟩, e2, e⟩ := Zo e
 exact ⟨ι, σd, Hd, x, H1, sx, s, hr, e1, fun v1 H1' ι1 l1 h1 r1 => ⟨ι1, σd, H1, y, H2, ⟨sx.at_, sx.xd.mono l1⟩, s.mono l1, h1, e2, fun v2 H2' ι2 l2 h2 r2 =>
  ⟨ι2, x, y, H2, d, Hd', h2, r1.mono l2, r2, e, fun v H' ι' l h r => q v H' ι' ((l1.trans l2).trans l) h r⟩⟩⟩
noncomputable def IsiO (K : Frag) (mg : Str -> Option Value) (xn : Str) : Prop := ∀ C, mg xn = some (.ref C) -> kitOne K (.ref C) (.ref C) = some true
theorem Zvx {K : Frag} {hp : Heap} {mg : Str -> Option Value} {xn : Str} {C : Addr} (X : K.In hp) (G : hp.Ns mainGlobals mg) (a : nsIn K mainGlobals xn = some (some (.ref C))) (r : kitOne K (.ref C) (.ref C) = some true) : IsiO K mg xn := by
 intro C' h
 rw [Zd3 X G a] at h
 cases h
 exact r
theorem Zrq {C : Addr} {f xn en : Str} {k : Nat} {oe : Obj} {p1 p2 p3 p4 : Pos} (R : YRs X.prog X.w X.K X.mg X.base xn f k) (hE : X.mg xn = some (.ref C)) (J : IsiO X.K X.mg xn) (hc : oe.cls = .ref C) (mI : X.mg "isinstance" = none) (hi : X.N[iE]? = some en) (vE : Vis X.env.scope en) (gI : Gl X "isinstance" := by rfl) (gX : Gl X xn := by rfl)
  (dE : (en == ("__debug__" : Str)) = false := by decide) (dE2 : (en == ("__classdict__" : Str)) = false := by decide) (dX : (xn == ("__debug__" : Str)) = false := by decide) : PEx (Xh X ex oe) iE ex av i dx (.Call (.Name "isinstance" p1) [.Name en p2, .Name xn p3] [] p4) (eC (.bl true)) := by
 obtain ⟨Cl, fI, fd, ps, h2, h3, h4, h5, h6⟩ := R.at hE
 exact Zv8 h6 hc (J C hE) hi vE mI hE gI gX dE dE2 dX
end
end DL
namespace DL
open PySem PySem.Spec PyProof.Rows L2
section
variable {prog : Program} {w : World} {A : Around} {E : Value -> Shared -> Prop} {s : Shared}
theorem Zoy {d L : Addr} {m : Str -> Option Value} {es : Array DictEntry} {ep : Nat} {ns : List Int} {Q : Value -> Shared -> Prop} (hn : s.heap.Ns L m) (hh : A.handled = none) (x : Zw9 d es ep s.heap) (hI : IntsAre (es.toList.map (·.key)) ns) (h64 : es.size < 64)
  (h : ∀ h' tk D out c, h'.Ns L m → (∀ b o, b ≠ L → s.heap.get? b = some o → h'.get? b = some o) → s.heap.objs.size ≤ D → h'.get? D = some (seqObj "list" out c) → KskOut false (ns.map Zf0) (es.toList.map (·.key)) out.toList → Q (.ref D) { s with heap := h', toks := tk }) :
  wpAny (model prog w) A (call (.builtin "sorted") [.ref d] [(Str.ofString "key", .builtin "abs")]) Q E s := by
 have sz : sizeLine = 16777216 := sizeLine_eq
 have lt := hn.lt
 refine call_function_entry_kw kind_sorted plain_sorted entry_sorted (ksk_s1 _ _) ?_
 unfold Builtin.«sorted»
 refine wpAny_bind (m := checkCount "sorted" 1 1 _) (wpAny_pure (wpAny_bind (Zl5 (show A.in1.handled = none from hh) x (by omega) fun h1 tk k1 le => wpAny_bind (wpAny_newList ?_ (by simp; omega)))))
 generalize ev : es.toList.map (·.key) = vs at *
 have lv : vs.length = es.size := by rw [← ev]; simp
 let h2 : Heap := h1.push (seqObj "list" vs.toArray 0)
 have at2 : h2.get? h1.objs.size = some (seqObj "list" vs.toArray 0) := Heap.get?_push_size _ rfl
 have kp : ∀ b o, s.heap.get? b = some o -> h2.get? b = some o := fun b o e => Heap.get?_push_of_some _ (k1 b o e)
 have ltD : ∀ b o, s.heap.get? b = some o -> b ≠ h1.objs.size := fun b o e => Nat.ne_of_lt (Nat.lt_of_lt_of_le (Heap.lt_size e) le)
 have LD : h1.objs.size ≠ L := Ne.symm (Nat.ne_of_lt (Nat.lt_of_lt_of_le lt le))
 have F0 : Fr {} L s.heap m := ⟨hn, fun b o e => absurd ((Zgh b).symm.trans e) (by simp), Nat.zero_le _⟩
 have N0 : News {} L s.heap (Zij s.heap L) := fun p hp => ⟨(Zdh hp).1, (Zdh hp).2, Zgh _⟩
 have ln : ns.length = vs.length := hI.length.symm
 show wpAny _ _ _ _ _ { s with heap := h2, toks := tk }
 refine wpAny_bind (wpAny_holding (wpAny_call_entry_kw (s := { s with heap := h2, toks := tk }) slot_list_sort ⟨_, at2, rfl⟩ entry_list_sort ?body (ksk_l1 _ _)))
 case body =>
  show wpAny (model prog w) A.in1.in1 (Builtin.«list.sort» ⟨[.ref h1.objs.size], [(Str.ofString "key", .builtin "abs")]⟩) _ _ _
  rw [ksk_t4]
  refine ksk_sort (s := { s with heap := h2, toks := tk }) (kz := ns.map Zf0) (news := Zij s.heap L) (F0.kept kp) (N0.grown kp) at2 LD (Zgh _) (fun p hp => ltD _ _ (Zdh hp).1)
   (by rw [List.length_map]; exact ln) (by omega) (fun i v k hv hk hh tk own F N => ?_) fun h' tk out c F' N' K' => ⟨_, rfl, ?_⟩
  ·obtain ⟨n, t, rfl, e⟩ := hI.at i v hv
   rw [List.getElem?_map, e] at hk
   cases hk
   exact call_abs_int fun u tk' => KskEnd.intro F N fun p hp => hp
  ·refine wpAny_pure ⟨_, rfl, h h' tk _ out c F'.ns (fun b o hb e => ?_) le ?_ K'⟩
   ·exact (N' _ (List.mem_cons_of_mem _ (Zlp hb e))).1
   ·exact (N' _ (List.mem_cons_self ..)).1
end
noncomputable def Zho : FF := fun ds H => match ds with
 | [.ref n] => match H[n]? with
  | some (.dci kvs) => if kvs.length < 64 ∧ ((kvs.map (·.1)).map Zf0).Nodup then some (.ref H.length, H ++ [.lst ((Zco (kvs.map (·.1))).map .int)]) else none
  | _ => none
 | _ => none
theorem Zoo {p : Program} {w : World} {es : List DictEntry} {xs : List (Int × Value)} (e : Pairs (Zsv p w) es xs) : IntsAre (es.map (·.key)) (xs.map (·.1)) := by
 induction e with
 | nil => exact .nil
 | cons a b c ih =>
  obtain ⟨t, q⟩ := Ziw a
  rw [List.map_cons, List.map_cons, q]
  exact .cons _ t ih
theorem Zrx {K : PySem.W.Frag} {H : Hp} {ι : List Addr} {kvs : List (Int × D)} {xs : List (Int × Value)} (P : Paired (Zs5 K H ι) kvs xs) : kvs.map (·.1) = xs.map (·.1) := by
 induction P with
 | nil => rfl
 | cons a b ih => rw [List.map_cons, List.map_cons, a.1, ih]
theorem Znr {X : Cx} {a : Expr} {f : AF} {p p2 kp pos : Pos} (hcm : X.calm = true) (hg : Gl X "sorted") (hm : X.mg "sorted" = none) (hg2 : Gl X "abs") (hm2 : X.mg "abs" = none) (ha : PAf X [a] f) (hs : starEach [a] X.env = [(false, eval a X.env)] := by rfl) :
  PEf X (.Call (.Name "sorted" p) [a] [⟨some "key", .Name "abs" p2, kp⟩] pos) (eCB Zho f) := by
 rintro pins s σ H Q I ⟨ι, σd, Hd, d, Hd', sr, hr, e, q⟩
 obtain ⟨⟨ds, H1⟩, e1, e⟩ := Zo e
 dsimp only at e
 unfold Zho at e
 split at e
 ·rename_i n
  split at e
  ·rename_i kvs eo
   split at e
   ·rename_i hc
    show wpAny _ _ (do callWith pos (← eval (.Name "sorted" p) X.env) [] (backTo pos (starEach [a] X.env)) (backToKw pos (keywordEach [⟨some "key", .Name "abs" p2, kp⟩] X.env))) _ _ _
    refine wpAny_bind (Zey I hg hm Zj7 (callWith_builtin_kwB (by rw [hs]; rfl) rfl ?_))
    have hA := ha pos pins s σ H (fun vs H' => ∃ ι', Le X.K H ι H' ι' ∧ HRep X.K H' ι' H1 ∧ Paired (Rep X.K H' ι') [.ref n] vs) I ⟨ι, σd, Hd, _, _, sr, hr, e1, fun vs H' ι' l h P => ⟨ι', l, h, P⟩⟩
    rw [hs] at hA ⊢
    refine evalArgs_kwB rfl (thn hA fun us s1 ⟨vs, H2, I2, r2, ι2, l2, h2, P2⟩ => kws_cons (Zey I2 hg2 hm2 Zrn (kws_nil ?_)))
    obtain ⟨v, rfl, r⟩ := Zls P2
    obtain ⟨u, rfl, ru⟩ := Zgp r2
    obtain ⟨ad, rfl, had⟩ := Zau.mp r
    cases ru
    obtain ⟨h3, xs, PK, dd⟩ := Zup I2 (h2.obj n ad _ had eo)
    obtain ⟨o, es, ep, g1, g2, g3, g4, g5, g6⟩ := dd
    show wpAny _ _ (call (.builtin "sorted") [.ref ad] [(Str.ofString "key", .builtin "abs")]) _ _ _
    obtain ⟨m, hn, _⟩ := I2.loc
    have hI := Zoo g5
    rw [← Zrx PK] at hI
    have les : es.size = kvs.length := by
     have := hI.length
     simpa using this
    refine Zoy hn (I2.ok.hd hcm) ⟨h3, o, g1, g2, g3⟩ hI (by omega) fun h' tk Da out c hn' kk hD hat K' => ?_
    have hO := Zvb hI hc.2 K'
    have hl : ((Zco (kvs.map (·.1))).map V.int).length ≤ sizeLine := by
     rw [List.length_map, (Zdf (kvs.map (·.1))).length_eq, List.length_map]
     have : sizeLine = 16777216 := sizeLine_eq
     omega
    refine ⟨.ref Da, _, Zk9 (o := .lst ((Zco (kvs.map (·.1))).map V.int)) I2 kk (fun m' hm' => by rw [hm'.eq_nsMap, ← hn.eq_nsMap]; exact hn') hD ⟨hl, out.toList, c, Zj9 hO, by simpa using hat⟩, rfl, ?_⟩
    have hz2 : ((Zco (kvs.map (·.1))).map D.int).length ≤ sizeLine := by simpa using hl
    exact (Zee h2 (Zj8 (Zco (kvs.map (·.1)))) (show mkL ((Zco (kvs.map (·.1))).map D.int) H1 = some (d, Hd') by unfold mkL; rw [if_pos hz2, e]) (fun v H' ι' l h r => q v H' ι' (l2.trans l) h r)).2 _ (I2.hok.fresh hD)
   ·cases e
  ·cases e
 ·cases e
end DL
namespace DL
open PySem L2
theorem Zf3 {n : Nat} (h : n ≤ 1000000) : n ≤ sizeLine := by rw [PySem.sizeLine_eq]; omega
theorem Zlq {xs : List D} {i : Int} {d : D} (h0 : 0 ≤ i) (h : xs[i.toNat]? = some d) : atI xs i = some d := by
 have : i = (i.toNat : Int) := by omega
 rw [this]; exact Zdw h
end DL
namespace LH
open PySem L2 DL
noncomputable def Zbn (l : Int) : Int := if l < 0 then -l else l
noncomputable def Up (m : Int) : Int -> List Int -> Prop
 | _, [] => True
 | last, l :: r => last < Zbn l ∧ Zbn l ≤ m ∧ Up m (Zbn l) r
noncomputable def Zbw (d : D) : Prop := d = .str "all" ∨ d = .str "some"
theorem Zh2 (H : HD) (n : Nat) (i : Int) : toP H n (.int i) = some (.int i) := by cases n <;> rw [toP]
theorem Zvi (H : HD) (n : Nat) (b : Bool) : toP H n (.bl b) = some (.bool b) := by cases n <;> rw [toP]
theorem Zwx (H : HD) (n : Nat) : toP H n .non = some .none := by cases n <;> rw [toP]
theorem Zxc (H : HD) (i : Int) : dat (.int i) H = some (.int i) := by
 simp [dat, Zh2, okP, PyData.canLay0, PyData.depth]
theorem Zzm (i j : Int) (H : HD) : eqD (.int i) (.int j) H = some (.bl (i == j), H) := by
 simp [eqD, Zr9, Zxc, PyData.eqv]
structure Sh (x : PyData) (w dp : Nat) : Prop where
 lay : x.canLay0 = true
 sh : x.showable = true
 dep : x.depth ≤ dp
 lv : x.leavesShort 40 = true
 wt : x.weight ≤ w
noncomputable def Zic (d : D) (w dp : Nat) : Prop := ∃ x, (∀ H n, toP H n d = some x) ∧ Sh x w dp
theorem Zic.bl {b : Bool} : Zic (.bl b) 40 0 := ⟨.bool b, fun H n => Zvi H n b, rfl, rfl, Nat.le_refl _, rfl, Nat.zero_le _⟩
theorem Zic.non : Zic .non 40 0 := ⟨.none, fun H n => Zwx H n, rfl, rfl, Nat.le_refl _, rfl, Nat.zero_le _⟩
theorem Zi5 (H : HD) (n : Nat) (x : Str) : toP H n (.str x) = some (.str x) := by cases n <;> rw [toP]
theorem Zic.str {x : Str} (h : PyData.strOk x = true) (h2 : (x.cps.toList.all fun c => decide (c < 16 ^ 8)) = true) (h3 : x.cps.size ≤ 40) : Zic (.str x) 40 0 :=
 ⟨.str x, fun H n => Zi5 H n x, h, rfl, Nat.le_refl _, h2, h3⟩
theorem Zb3 {x : Str} (h : (x.cps.toList.all fun c => decide (c < 0x110000)) = true) : PyData.strOk x = true := by
 unfold PyData.strOk
 rw [← Array.all_toList]
 exact h
theorem Zuv (xs : List D) (k : Nat) : Zib xs (some (k : Int)) none = xs.drop k := by
 unfold Zib
 have h1 : HT.sIx xs.length 0 (some (k : Int)) = min k xs.length := by
  show (if (k : Int) < 0 then ((k : Int) + (xs.length : Int)).toNat else min (k : Int).toNat xs.length) = min k xs.length
  rw [if_neg (by omega), Int.toNat_natCast]
 have h2 : HT.sIx xs.length xs.length none = xs.length := rfl
 rw [h1, h2]
 by_cases h : k ≤ xs.length
 ·rw [Nat.min_eq_left h]
  exact List.take_of_length_le (by simp)
 ·rw [Nat.min_eq_right (by omega), List.drop_of_length_le (Nat.le_refl _), List.drop_of_length_le (by omega)]
  simp
theorem Zuj (xs : List D) (k : Nat) : Zib xs none (some (k : Int)) = xs.take k := by
 unfold Zib
 have h1 : HT.sIx xs.length 0 none = 0 := rfl
 have h2 : HT.sIx xs.length xs.length (some (k : Int)) = min k xs.length := by
  show (if (k : Int) < 0 then ((k : Int) + (xs.length : Int)).toNat else min (k : Int).toNat xs.length) = min k xs.length
  rw [if_neg (by omega), Int.toNat_natCast]
 rw [h1, h2]
 simp
theorem ac {f : EF} {g : AF} {σ : SD} {H H1 H2 : HD} {d : D} {ds : List D} (h1 : f σ H = some (d, H1)) (h2 : g σ H1 = some (ds, H2)) : Zaa f g σ H = some (d :: ds, H2) := by
 unfold Zaa; rw [h1]; simp only [Zb]; rw [h2]; rfl
theorem cb {g : FF} {f : AF} {σ : SD} {H H1 : HD} {ds : List D} {r : Option (D × HD)} (h1 : f σ H = some (ds, H1)) (h2 : g ds H1 = r) : eCB g f σ H = r := by
 unfold eCB; rw [h1]; exact h2
theorem tu {n : Nat} {xs : List D} {H : HD} (h : H[n]? = some (.lst xs)) : Zcn [.ref n] H = some (.tup xs, H) := by
 simp [Zcn, Zlh, h]
theorem tp {f : AF} {σ : SD} {H H1 : HD} {ds : List D} (h1 : f σ H = some (ds, H1)) (h2 : ds.length ≤ 1000000) : Zcz f σ H = some (.tup ds, H1) := by
 unfold Zcz; rw [h1]; exact if_pos (Zf3 h2)
theorem ls {f : AF} {σ : SD} {H H1 : HD} {ds : List D} (h1 : f σ H = some (ds, H1)) (h2 : ds.length ≤ 1000000) : Zch f σ H = some (.ref H1.length, H1 ++ [.lst ds]) := by
 unfold Zch; rw [h1]; exact if_pos (Zf3 h2)
theorem ca {n : Nat} {F : FF} {f : AF} {σ : SD} {H H1 : HD} {ds : List D} {r : Option (D × HD)} (h1 : f σ H = some (ds, H1)) (hl : ds.length = n) (h2 : F ds H1 = r) : Zal n F f σ H = r := by
 unfold Zal; rw [h1]; simp only [Zb]; rw [if_pos hl]; exact h2
theorem rt {f : EF} {σ : SD} {H H1 : HD} {d : D} (h : f σ H = some (d, H1)) : Zaz f σ H = some (.rt d, σ, H1) := by
 unfold Zaz; rw [h]; rfl
theorem op {g : F2} {fa fb : EF} {σ : SD} {H H1 H2 : HD} {d1 d2 : D} {r : Option (D × HD)} (h1 : fa σ H = some (d1, H1)) (h2 : fb σ H1 = some (d2, H2)) (h3 : g d1 d2 H2 = r) : eOp g fa fb σ H = r := by
 unfold eOp; rw [h1]; simp only [Zb]; rw [h2]; exact h3
theorem Zzc {t : TF} {f g : SF} {σ : SD} {H H1 : HD} {b : Bool} (h : t σ H = some (b, H1)) : sIf t f g σ H = if b = true then f σ H1 else g σ H1 := by
 unfold sIf; rw [h]; rfl
theorem tof {f : EF} {σ : SD} {H H1 : HD} {b : Bool} (h : f σ H = some (.bl b, H1)) : tOf f σ H = some (b, H1) := by
 unfold tOf; rw [h]; rfl
theorem lenT (xs : List D) (H : HD) : Zbv [.tup xs] H = some (.int xs.length, H) := by simp [Zbv, Zlh]
theorem ixT {xs : List D} {i : Int} {d : D} {H : HD} (h : atI xs i = some d) : ixD (.tup xs) (.int i) H = some (d, H) := by simp [ixD, Zlh, h]
theorem sl {fe : EF} {fl fh : OF} {σ : SD} {H H1 H2 H3 : HD} {d : D} {l h : Option Int} {r : Option (D × HD)} (h1 : fe σ H = some (d, H1)) (h2 : fl σ H1 = some (l, H2)) (h3 : fh σ H2 = some (h, H3)) (h4 : slD d l h H3 = r) : eSl fe fl fh σ H = r := by
 unfold eSl; rw [h1]; simp only [Zb]; rw [h2]; simp only [Zb]; rw [h3]; exact h4
theorem os {f : EF} {σ : SD} {H H1 : HD} {i : Int} (h : f σ H = some (.int i, H1)) : Zbh f σ H = some (some i, H1) := by
 unfold Zbh; rw [h]; rfl
theorem slhi {xs : List D} {k : Nat} {H : HD} : slD (.tup xs) none (some (k : Int)) H = some (.tup (xs.take k), H) := by
 rw [← Zuj]; rfl
theorem sllo {xs : List D} {k : Nat} {H : HD} : slD (.tup xs) (some (k : Int)) none H = some (.tup (xs.drop k), H) := by
 rw [← Zuv]; rfl
theorem adT {xs ys : List D} {H : HD} (h : xs.length + ys.length ≤ 1000000) : Zbg (.tup xs) (.tup ys) H = some (.tup (xs ++ ys), H) :=
 if_pos (Zf3 (by rw [List.length_append]; exact h))
theorem suI (i j : Int) (H : HD) : Zl3 (.int i) (.int j) H = some (.int (i - j), H) := by simp [Zl3, iiD, CT]
theorem muT {xs : List D} {k : Int} {H : HD} (h1 : -1000 ≤ k) (h2 : k ≤ 1000) (h3 : xs.length ≤ 1000) : Zkk (.tup xs) (.int k) H = some (.tup (List.replicate k.toNat xs).flatten, H) := by
 have b : xs.length * k.toNat ≤ 1000 * 1000 := Nat.mul_le_mul h3 (by omega)
 have sz : sizeLine = 16777216 := PySem.sizeLine_eq
 have c : -(2 ^ 63) ≤ k ∧ k < 2 ^ 63 ∧ xs.length * k.toNat ≤ sizeLine := ⟨by omega, by omega, by omega⟩
 have l : (List.replicate k.toNat xs).flatten.length ≤ sizeLine := by
  rw [List.length_flatten, List.map_replicate, List.sum_replicate_nat, Nat.mul_comm]; omega
 show (if -(2 ^ 63) ≤ k ∧ k < 2 ^ 63 ∧ xs.length * k.toNat ≤ sizeLine then mkT (List.replicate k.toNat xs).flatten H else none) = _
 rw [if_pos c]
 exact if_pos l
noncomputable def Za7 (ls : List Int) : D := .tup (ls.map .int)
theorem orF {t u : TF} {σ : SD} {H H1 : HD} (h : t σ H = some (false, H1)) : Zga t u σ H = u σ H1 := by unfold Zga; rw [h]; rfl
theorem orT {t u : TF} {σ : SD} {H H1 : HD} (h : t σ H = some (true, H1)) : Zga t u σ H = some (true, H1) := by unfold Zga; rw [h]; rfl
theorem anF {t u : TF} {σ : SD} {H H1 : HD} (h : t σ H = some (false, H1)) : tAn t u σ H = some (false, H1) := by unfold tAn; rw [h]; rfl
theorem anT {t u : TF} {σ : SD} {H H1 : HD} (h : t σ H = some (true, H1)) : tAn t u σ H = u σ H1 := by unfold tAn; rw [h]; rfl
theorem Sh.can' {x : PyData} {w dp : Nat} (h : Sh x w dp) (hw : w ≤ 390000) (hd : dp ≤ 30) : Zjf x = true := by
 have sz : sizeLine = 16777216 := PySem.sizeLine_eq
 have l := PyData.shown_le 40 (by omega) x h.lv
 have h1 : x.shown.length ≤ sizeLine := by
  have := h.wt
  rw [sz]; omega
 have h2 : x.depth ≤ 30 := Nat.le_trans h.dep hd
 simp [Zjf, h.lay, h.sh, h1, h2]
noncomputable def OkE (H : HD) (d : D) : Prop := ∃ x, toP H 30 d = some x ∧ x.canLay0 = true ∧ x.depth ≤ 30
theorem OkE.dat {H : HD} {d : D} (h : OkE H d) : ∃ x, dat d H = some x ∧ toP H 30 d = some x := by
 obtain ⟨x, e, c, b⟩ := h
 refine ⟨x, ?_, e⟩
 unfold DL.dat
 rw [e]
 simp [okP, c, b]
noncomputable def tyOf : D -> String
 | .non => "NoneType"
 | .bl _ => "bool"
 | .int _ => "int"
 | .str _ => "str"
 | .tup _ => "tuple"
 | .fl _ => "list"
 | .ref _ => "list"
 | _ => "?"
theorem OkE.ty {H : HD} {d : D} (h : OkE H d) : tyD d H = some (tyOf d) := by
 obtain ⟨x, e, _⟩ := h
 cases d with
 | ty c => rw [toP] at e; cases e
 | ref m =>
  rw [toP] at e
  simp only [tyD, tyOf]
  split at e
  ·rfl
  ·cases e
 | _ => rfl
theorem OkE.isi {H : HD} {d : D} (h : OkE H d) (c : String) (hc : Zog c = true) : Zih [d, .ty c] H = some (.bl (tyOf d == c || (tyOf d == "bool" && c == "int")), H) := by
 simp [Zih, hc, h.ty]
theorem Zvf : ∀ bs : List Bool, (!(bs.map PyData.bool).any fun z => PyData.eqv z (.bool false)) = bs.all id
 | [] => rfl
 | b :: r => by
  have ih := Zvf r
  rw [List.map_cons, List.any_cons, Bool.not_or, ih, List.all_cons]
  cases b <;> simp [PyData.eqv]
end LH
namespace WP
open PySem L2 DL LH
noncomputable def wE (r : Option (D × HD)) (Q : D -> HD -> Prop) : Prop := ∃ d H, r = some (d, H) ∧ Q d H
noncomputable def wT (r : Option (Bool × HD)) (Q : Bool -> HD -> Prop) : Prop := ∃ d H, r = some (d, H) ∧ Q d H
noncomputable def wA (r : Option (List D × HD)) (Q : List D -> HD -> Prop) : Prop := ∃ d H, r = some (d, H) ∧ Q d H
noncomputable def wO (r : Option (Option Int × HD)) (Q : Option Int -> HD -> Prop) : Prop := ∃ d H, r = some (d, H) ∧ Q d H
noncomputable def wI (r : Option ((List D × Zgr) × HD)) (Q : List D -> Zgr -> HD -> Prop) : Prop := ∃ d o H, r = some ((d, o), H) ∧ Q d o H
noncomputable def wG (r : Option (SD × HD)) (Q : SD -> HD -> Prop) : Prop := ∃ d H, r = some (d, H) ∧ Q d H
noncomputable def wH (r : Option HD) (Q : HD -> Prop) : Prop := ∃ H, r = some H ∧ Q H
noncomputable def wS (r : Option (FD × SD × HD)) (Q : FD -> SD -> HD -> Prop) : Prop := ∃ x d H, r = some (x, d, H) ∧ Q x d H
noncomputable def wN (n : Nat) (F : FF) (ds : List D) (H : HD) (Q : D -> HD -> Prop) : Prop := ds.length = n ∧ wE (F ds H) Q
noncomputable def br (b : Bool) (P Q : Prop) : Prop := (b = true -> P) ∧ (b = false -> Q)
noncomputable def Zr1 (k : SD -> HD -> Prop) (Q : FD -> SD -> HD -> Prop) : FD -> SD -> HD -> Prop
 | .nx, σ, H => k σ H
 | r, σ, H => Q r σ H
noncomputable def fin (Q : D -> HD -> Prop) : FD -> SD -> HD -> Prop
 | .rt d, _, H => Q d H
 | .nx, _, H => Q .non H
 | _, _, _ => False
section
variable {σ : SD} {H : HD} {Q : D -> HD -> Prop}
theorem Zgb {r : Option (D × HD)} {d : D} {H : HD} (e : r = some (d, H)) (q : Q d H) : wE r Q := ⟨d, H, e, q⟩
theorem wS_of {Q : FD -> SD -> HD -> Prop} {r : Option (FD × SD × HD)} {x : FD} {d : SD} {H : HD} (e : r = some (x, d, H)) (q : Q x d H) : wS r Q := ⟨x, d, H, e, q⟩
theorem w_var {i : Nat} {d : D} (h : (σ[i]?).join = some d) (q : Q d H) : wE (Zac i σ H) Q := ⟨d, H, by unfold Zac; rw [h]; rfl, q⟩
theorem w_c {d : D} (q : Q d H) : wE (eC d σ H) Q := ⟨d, H, rfl, q⟩
theorem w_op {g : F2} {fa fb : EF} (h : wE (fa σ H) fun x H1 => wE (fb σ H1) fun y H2 => wE (g x y H2) Q) : wE (eOp g fa fb σ H) Q := by
 obtain ⟨x, H1, e1, y, H2, e2, d, H3, e3, q⟩ := h
 exact ⟨d, H3, op e1 e2 e3, q⟩
theorem w_un {g : D -> HD -> Option (D × HD)} {fa : EF} (h : wE (fa σ H) fun x H1 => wE (g x H1) Q) : wE (eUn g fa σ H) Q := by
 obtain ⟨x, H1, e1, d, H3, e3, q⟩ := h
 exact ⟨d, H3, by unfold eUn; rw [e1]; exact e3, q⟩
theorem w_ch {g g' : F2} {fa fb fc : EF} (h : wE (fa σ H) fun x H1 => wE (fb σ H1) fun y H2 => wE (g x y H2) fun z H3 => ∃ k, z = .bl k ∧ br k (wE (fc σ H3) fun w H4 => wE (g' y w H4) Q) (Q (.bl false) H3)) : wE (eCh g g' fa fb fc σ H) Q := by
 obtain ⟨x, H1, e1, y, H2, e2, z, H3, e3, k, rfl, b1, b2⟩ := h
 unfold eCh
 rw [e1]; simp only [Zb]; rw [e2]; simp only [Zb]; rw [e3]; simp only [Zb, blD]
 cases k with
 | true =>
  obtain ⟨w, H4, e4, d, H5, e5, q⟩ := b1 rfl
  exact ⟨d, H5, by rw [if_pos rfl, e4]; exact e5, q⟩
 | false => exact ⟨.bl false, H3, by rw [if_neg (by simp)], b2 rfl⟩
theorem w_tof {f : EF} {Q : Bool -> HD -> Prop} (h : wE (f σ H) fun d H1 => ∃ b, d = .bl b ∧ Q b H1) : wT (tOf f σ H) Q := by
 obtain ⟨d, H1, e, b, rfl, q⟩ := h
 exact ⟨b, H1, tof e, q⟩
theorem w_bl {b : Bool} {P : Bool -> Prop} (h : P b) : ∃ c, D.bl b = .bl c ∧ P c := ⟨b, rfl, h⟩
theorem w_ttru {f : EF} {Q : Bool -> HD -> Prop} (h : wE (f σ H) fun d H1 => ∃ b, Zr4 d H1 = some b ∧ Q b H1) : wT (Zgq f σ H) Q := by
 obtain ⟨d, H1, e, b, e2, q⟩ := h
 exact ⟨b, H1, by unfold Zgq; rw [e]; simp only [Zb]; rw [e2]; rfl, q⟩
theorem w_no {t : TF} {Q : Bool -> HD -> Prop} (h : wT (t σ H) fun b H1 => Q (!b) H1) : wT (tNo t σ H) Q := by
 obtain ⟨b, H1, e, q⟩ := h
 exact ⟨!b, H1, by unfold tNo; rw [e]; rfl, q⟩
theorem w_an {t u : TF} {Q : Bool -> HD -> Prop} (h : wT (t σ H) fun b H1 => br b (wT (u σ H1) Q) (Q false H1)) : wT (tAn t u σ H) Q := by
 obtain ⟨b, H1, e, q1, q2⟩ := h
 cases b with
 | true => obtain ⟨c, H2, e2, q⟩ := q1 rfl; exact ⟨c, H2, (anT e).trans e2, q⟩
 | false => exact ⟨false, H1, anF e, q2 rfl⟩
theorem w_or {t u : TF} {Q : Bool -> HD -> Prop} (h : wT (t σ H) fun b H1 => br b (Q true H1) (wT (u σ H1) Q)) : wT (Zga t u σ H) Q := by
 obtain ⟨b, H1, e, q1, q2⟩ := h
 cases b with
 | true => exact ⟨true, H1, orT e, q1 rfl⟩
 | false => obtain ⟨c, H2, e2, q⟩ := q2 rfl; exact ⟨c, H2, (orF e).trans e2, q⟩
theorem w_eno {f : EF} (h : wE (f σ H) fun d H1 => ∃ b, d = .bl b ∧ Q (.bl (!b)) H1) : wE (eNo f σ H) Q := by
 obtain ⟨d, H1, e, b, rfl, q⟩ := h
 exact ⟨.bl (!b), H1, by unfold eNo; rw [e]; rfl, q⟩
theorem w_ean {f g : EF} (h : wE (f σ H) fun d H1 => ∃ b, d = .bl b ∧ br b (wE (g σ H1) Q) (Q (.bl false) H1)) : wE (eAn f g σ H) Q := by
 obtain ⟨d, H1, e, b, rfl, q1, q2⟩ := h
 unfold eAn
 rw [e]; simp only [Zb, blD]
 cases b with
 | true => rw [if_pos rfl]; exact q1 rfl
 | false => rw [if_neg (by simp)]; exact ⟨_, _, rfl, q2 rfl⟩
theorem w_anil {Q : List D -> HD -> Prop} (q : Q [] H) : wA (Zae σ H) Q := ⟨[], H, rfl, q⟩
theorem w_acons {f : EF} {g : AF} {Q : List D -> HD -> Prop} (h : wE (f σ H) fun d H1 => wA (g σ H1) fun ds H2 => Q (d :: ds) H2) : wA (Zaa f g σ H) Q := by
 obtain ⟨d, H1, e1, ds, H2, e2, q⟩ := h
 exact ⟨d :: ds, H2, ac e1 e2, q⟩
theorem w_cb {g : FF} {f : AF} (h : wA (f σ H) fun ds H1 => wE (g ds H1) Q) : wE (eCB g f σ H) Q := by
 obtain ⟨ds, H1, e1, d, H2, e2, q⟩ := h
 exact ⟨d, H2, cb e1 e2, q⟩
theorem w_call {n : Nat} {F : FF} {f : AF} (h : wA (f σ H) fun ds H1 => wN n F ds H1 Q) : wE (Zal n F f σ H) Q := by
 obtain ⟨ds, H1, e1, hl, d, H2, e2, q⟩ := h
 exact ⟨d, H2, ca e1 hl e2, q⟩
theorem w_n {n : Nat} {F : FF} {ds : List D} (hl : ds.length = n) (h : wE (F ds H) Q) : wN n F ds H Q := ⟨hl, h⟩
theorem w_tup {f : AF} (h : wA (f σ H) fun ds H1 => ds.length ≤ 1000000 ∧ Q (.tup ds) H1) : wE (Zcz f σ H) Q := by
 obtain ⟨ds, H1, e1, hl, q⟩ := h
 exact ⟨_, H1, tp e1 hl, q⟩
theorem w_lst {f : AF} (h : wA (f σ H) fun ds H1 => ds.length ≤ 1000000 ∧ Q (.ref H1.length) (H1 ++ [.lst ds])) : wE (Zch f σ H) Q := by
 obtain ⟨ds, H1, e1, hl, q⟩ := h
 exact ⟨_, _, ls e1 hl, q⟩
theorem w_lm {g : D -> List D -> HD -> Option (D × HD)} {fo : EF} {f : AF} (h : wE (fo σ H) fun o H1 => Zml o H1 = true ∧ wA (f σ H1) fun ds H2 => wE (g o ds H2) Q) : wE (eLM g fo f σ H) Q := by
 obtain ⟨o, H1, e1, i, ds, H2, e2, d, H3, e3, q⟩ := h
 exact ⟨d, H3, by unfold eLM; rw [e1]; simp only [Zb]; rw [if_pos i, e2]; exact e3, q⟩
theorem w_on {Q : Option Int -> HD -> Prop} (q : Q none H) : wO (Zbq σ H) Q := ⟨none, H, rfl, q⟩
theorem w_os {f : EF} {Q : Option Int -> HD -> Prop} (h : wE (f σ H) fun d H1 => ∃ i, d = .int i ∧ Q (some i) H1) : wO (Zbh f σ H) Q := by
 obtain ⟨d, H1, e, i, rfl, q⟩ := h
 exact ⟨some i, H1, os e, q⟩
theorem w_int {i : Int} {P : Int -> Prop} (h : P i) : ∃ c, D.int i = .int c ∧ P c := ⟨i, rfl, h⟩
theorem w_sl {fe : EF} {fl fh : OF} (h : wE (fe σ H) fun x H1 => wO (fl σ H1) fun l H2 => wO (fh σ H2) fun u H3 => wE (slD x l u H3) Q) : wE (eSl fe fl fh σ H) Q := by
 obtain ⟨x, H1, e1, l, H2, e2, u, H3, e3, d, H4, e4, q⟩ := h
 exact ⟨d, H4, sl e1 e2 e3 e4, q⟩
variable {R : FD -> SD -> HD -> Prop}
theorem w_snil (q : R .nx σ H) : wS (Zak σ H) R := ⟨_, _, _, rfl, q⟩
theorem w_seq {f g : SF} (h : wS (f σ H) (Zr1 (fun σ1 H1 => wS (g σ1 H1) R) R)) : wS (Zaf f g σ H) R := by
 obtain ⟨x, σ1, H1, e, k⟩ := h
 unfold Zaf
 rw [e]; simp only [Zb]
 cases x with
 | nx => exact k
 | bk => exact ⟨_, _, _, rfl, k⟩
 | ct => exact ⟨_, _, _, rfl, k⟩
 | rt d => exact ⟨_, _, _, rfl, k⟩
theorem w_kn {k : SD -> HD -> Prop} (h : k σ H) : Zr1 k R .nx σ H := h
theorem w_kr {k : SD -> HD -> Prop} {d : D} (h : R (.rt d) σ H) : Zr1 k R (.rt d) σ H := h
theorem Zlu {r : Option (FD × SD × HD)} {k : SD -> HD -> Prop} (J : SD -> HD -> Prop) (h : wS r fun x σ H => x = .nx ∧ J σ H) (q : ∀ σ H, J σ H -> k σ H) : wS r (Zr1 k R) := by
 obtain ⟨x, s, H, e, rfl, j⟩ := h
 exact ⟨_, s, H, e, q s H j⟩
theorem w_fr {d : D} (h : Q d H) : fin Q (.rt d) σ H := h
theorem w_ret {f : EF} (h : wE (f σ H) fun d H1 => R (.rt d) σ H1) : wS (Zaz f σ H) R := by
 obtain ⟨d, H1, e, q⟩ := h; exact ⟨_, _, _, rt e, q⟩
theorem w_expr {f : EF} (h : wE (f σ H) fun d H1 => R .nx σ H1) : wS (Zds f σ H) R := by
 obtain ⟨d, H1, e, q⟩ := h; exact ⟨_, _, _, by unfold Zds; rw [e]; rfl, q⟩
theorem w_if {t : TF} {f g : SF} (h : wT (t σ H) fun b H1 => br b (wS (f σ H1) R) (wS (g σ H1) R)) : wS (sIf t f g σ H) R := by
 obtain ⟨b, H1, e, q1, q2⟩ := h
 rw [Zzc e]
 cases b with
 | true => rw [if_pos rfl]; exact q1 rfl
 | false => rw [if_neg (by simp)]; exact q2 rfl
theorem w_set {i : Nat} {f : EF} (h : wE (f σ H) fun d H1 => R .nx (σ.set i (some d)) H1) : wS (Zav i f σ H) R := by
 obtain ⟨d, H1, e, q⟩ := h; exact ⟨_, _, _, by unfold Zav; rw [e]; rfl, q⟩
theorem w_asg {f : EF} {g : GF} (h : wE (f σ H) fun d H1 => wG (g d σ H1) fun σ2 H2 => R .nx σ2 H2) : wS (Zzd f g σ H) R := by
 obtain ⟨d, H1, e, σ2, H2, e2, q⟩ := h; exact ⟨_, _, _, by unfold Zzd; rw [e]; simp only [Zb]; rw [e2]; rfl, q⟩
theorem w_gnm {i : Nat} {d : D} {Q : SD -> HD -> Prop} (h : Q (σ.set i (some d)) H) : wG (gNm i d σ H) Q := ⟨_, _, rfl, h⟩
theorem w_gsb {fo fi : EF} {g : Zx3} {d : D} {Q : SD -> HD -> Prop} (h : wE (fo σ H) fun o H1 => wE (fi σ H1) fun i H2 => wH (g o i d H2) fun H3 => Q σ H3) : wG (gSb fo fi g d σ H) Q := by
 obtain ⟨o, H1, e1, i, H2, e2, H3, e3, q⟩ := h
 exact ⟨σ, H3, by unfold gSb; rw [e1]; simp only [Zb]; rw [e2]; simp only [Zb]; rw [e3]; rfl, q⟩
theorem w_gtp {n : Nat} {g : GFs} {ds : List D} {Q : SD -> HD -> Prop} (hl : ds.length = n) (h : wG (g ds σ H) Q) : wG (gTp n g (.tup ds) σ H) Q := by
 obtain ⟨s, H1, e, q⟩ := h
 exact ⟨s, H1, by unfold gTp; simp only [if_pos hl]; exact e, q⟩
theorem w_gnl {Q : SD -> HD -> Prop} (h : Q σ H) : wG (gNl [] σ H) Q := ⟨_, _, rfl, h⟩
theorem w_gcn {g : GF} {h : GFs} {d : D} {r : List D} {Q : SD -> HD -> Prop} (q : wG (g d σ H) fun σ1 H1 => wG (h r σ1 H1) Q) : wG (gCn g h (d :: r) σ H) Q := by
 obtain ⟨s, H1, e, s2, H2, e2, q⟩ := q
 exact ⟨s2, H2, by unfold gCn; simp only; rw [e]; exact e2, q⟩
theorem w_for {it : ItF} {g : GF} {b : SF} (h : wI (it σ H) fun xs own H1 => wS (Zia own g b xs σ H1) R) : wS (Zi3 it g b σ H) R := by
 obtain ⟨xs, own, H1, e, q⟩ := h
 unfold Zi3; rw [e]; exact q
theorem Zbc {n N : Nat} {b : SF} {ds : List D} (hl : ds.length = n) (h : wS (b (ds.map some ++ List.replicate (N - ds.length) none) H) (fin Q)) : wE (Za5 n N b ds H) Q := by
 obtain ⟨x, s, H1, e, q⟩ := h
 unfold Za5
 rw [if_pos hl, e]
 simp only [Zb]
 cases x with
 | nx => exact ⟨_, _, rfl, q⟩
 | rt d => exact ⟨_, _, rfl, q⟩
 | bk => exact q.elim
 | ct => exact q.elim
theorem w_lc {it : ItF} {ci : List Nat} {tt : TF} {te : EF} (h : wI (it σ H) fun xs own H1 => wA (Zem own (Zx4 ci σ) tt te xs H1) fun ds H2 => ds.length ≤ 1000000 ∧ Q (.ref H2.length) (H2 ++ [.lst ds])) : wE (eLC it ci tt te σ H) Q := by
 obtain ⟨xs, own, H1, e, ds, H2, e2, hl, q⟩ := h
 exact ⟨_, _, by unfold eLC; rw [e]; simp only [Zb]; rw [e2]; exact if_pos (Zf3 hl), q⟩
theorem w_bt {P S : Prop} (h : P) : br true P S := ⟨fun _ => h, nofun⟩
theorem w_bf {P S : Prop} (h : S) : br false P S := ⟨nofun, fun _ => h⟩
theorem w_bnt {P S : Prop} (h : P) : br (!false) P S := ⟨fun _ => h, nofun⟩
theorem w_bnf {P S : Prop} (h : S) : br (!true) P S := ⟨nofun, fun _ => h⟩
theorem w_bT {b : Bool} {P S : Prop} (e : b = true) (h : P) : br b P S := by subst e; exact w_bt h
theorem w_bF {b : Bool} {P S : Prop} (e : b = false) (h : S) : br b P S := by subst e; exact w_bf h
theorem w_sz {ds : List D} {P : Prop} (h : ds.length ≤ 1000000) (q : P) : ds.length ≤ 1000000 ∧ P := ⟨h, q⟩
theorem w_addI {i j : Int} (q : Q (.int (i + j)) H) : wE (Zbg (.int i) (.int j) H) Q := ⟨_, _, rfl, q⟩
theorem w_addT {a b : List D} (h : a.length + b.length ≤ 1000000) (q : Q (.tup (a ++ b)) H) : wE (Zbg (.tup a) (.tup b) H) Q := ⟨_, _, adT h, q⟩
theorem w_subI {i j : Int} (q : Q (.int (i - j)) H) : wE (Zl3 (.int i) (.int j) H) Q := ⟨_, _, suI i j H, q⟩
theorem w_lt {i j : Int} (q : Q (.bl (decide (i < j))) H) : wE (ltD (.int i) (.int j) H) Q := ⟨_, _, by simp [ltD, iiD, CT], q⟩
theorem w_le {i j : Int} (q : Q (.bl (decide (i ≤ j))) H) : wE (leD (.int i) (.int j) H) Q := ⟨_, _, by simp [leD, iiD, CT], q⟩
theorem w_gt {i j : Int} (q : Q (.bl (decide (j < i))) H) : wE (gtD (.int i) (.int j) H) Q := ⟨_, _, by simp [gtD, iiD, CT], q⟩
theorem w_ge {i j : Int} (q : Q (.bl (decide (j ≤ i))) H) : wE (geD (.int i) (.int j) H) Q := ⟨_, _, by simp [geD, iiD, CT], q⟩
theorem w_mod {i j : Int} (h : 0 < j) (q : Q (.int (i % j)) H) : wE (Zbx (.int i) (.int j) H) Q := ⟨_, _, by have c : Zyp i j := h; simp [Zbx, iiD, c], q⟩
theorem w_fdiv {i j : Int} (h : 0 < j) (h2 : j < 1073741824) (q : Q (.int (i / j)) H) : wE (Zjt (.int i) (.int j) H) Q := ⟨_, _, by have c : Zy9 i j := ⟨h, h2⟩; simp [Zjt, iiD, c], q⟩
theorem w_mulL {i j : Int} (h1 : -(2 ^ 64) < i) (h2 : i < 2 ^ 64) (q : Q (.int (i * j)) H) : wE (Zkk (.int i) (.int j) H) Q := ⟨_, _, by have c : Zud i j := .inl ⟨h1, h2⟩; simp [Zkk, c], q⟩
theorem w_mulR {i j : Int} (h1 : -(2 ^ 64) < j) (h2 : j < 2 ^ 64) (q : Q (.int (i * j)) H) : wE (Zkk (.int i) (.int j) H) Q := ⟨_, _, by have c : Zud i j := .inr ⟨h1, h2⟩; simp [Zkk, c], q⟩
theorem Zox {i j : Int} (h1 : 0 ≤ j) (h2 : j ≤ 1000000) (h3 : i.natAbs < 2 ^ 64) (q : Q (.int (i ^ j.toNat)) H) : wE (Zu5 (.int i) (.int j) H) Q := ⟨_, _, by have c : Zys i j := ⟨h1, h2, h3⟩; simp [Zu5, iiD, c], q⟩
theorem w_neg {i : Int} (q : Q (.int (-i)) H) : wE (Zl1 (.int i) H) Q := ⟨_, _, rfl, q⟩
theorem w_eqI {i j : Int} (q : Q (.bl (i == j)) H) : wE (eqD (.int i) (.int j) H) Q := ⟨_, _, Zzm _ _ _, q⟩
theorem w_eqS {a b : Str} (q : Q (.bl (a == b)) H) : wE (eqD (.str a) (.str b) H) Q := ⟨_, _, rfl, q⟩
theorem w_neS {a b : Str} (q : Q (.bl (a != b)) H) : wE (neD (.str a) (.str b) H) Q := ⟨_, _, rfl, q⟩
theorem w_lenT {xs : List D} (q : Q (.int xs.length) H) : wE (Zbv [.tup xs] H) Q := ⟨_, _, lenT xs H, q⟩
theorem w_lenR {n : Nat} {xs : List D} (h : H[n]? = some (.lst xs)) (q : Q (.int xs.length) H) : wE (Zbv [.ref n] H) Q := ⟨_, _, by simp [Zbv, Zlh, h], q⟩
theorem w_lenF {xs : List D} (q : Q (.int xs.length) H) : wE (Zbv [.fl xs] H) Q := ⟨_, _, by simp [Zbv, Zlh], q⟩
theorem w_abs {i : Int} (q : Q (.int (Zbn i)) H) : wE (Zxr [.int i] H) Q := ⟨_, _, rfl, q⟩
theorem w_ixT {xs : List D} {i : Int} {d : D} (h : atI xs i = some d) (q : Q d H) : wE (ixD (.tup xs) (.int i) H) Q := ⟨_, _, ixT h, q⟩
theorem w_ixR {n : Nat} {xs : List D} {i : Int} {d : D} (g : H[n]? = some (.lst xs)) (h : atI xs i = some d) (q : Q d H) : wE (ixD (.ref n) (.int i) H) Q := ⟨_, _, by simp [ixD, Zlh, g, h], q⟩
theorem w_ixF {xs : List D} {i : Int} {d : D} (h : atI xs i = some d) (q : Q d H) : wE (ixD (.fl xs) (.int i) H) Q := ⟨_, _, by simp [ixD, Zlh, h], q⟩
theorem w_intB {b : Bool} (q : Q (.int (if b then 1 else 0)) H) : wE (intD [.bl b] H) Q := ⟨_, _, rfl, q⟩
theorem w_max {i j : Int} (q : Q (.int (if j > i then j else i)) H) : wE (Zzj [.int i, .int j] H) Q := ⟨_, _, rfl, q⟩
theorem w_tupR {n : Nat} {xs : List D} (h : H[n]? = some (.lst xs)) (q : Q (.tup xs) H) : wE (Zcn [.ref n] H) Q := ⟨_, _, tu h, q⟩
theorem Zha {n : Nat} {xs : List D} {d : D} (h : H[n]? = some (.lst xs)) (hl : xs.length < 1000000) (q : Q .non (H.set n (.lst (xs ++ [d])))) : wE (Zbk (.ref n) [d] H) Q :=
 ⟨_, _, by simp [Zbk, h, Nat.lt_of_lt_of_le hl (Zf3 (Nat.le_refl _))], q⟩
theorem w_isi {d : D} {c t : String} (ha : Zog c = true) (h : tyD d H = some t) (q : Q (.bl (t == c || (t == "bool" && c == "int"))) H) : wE (Zih [d, .ty c] H) Q := ⟨_, _, by simp [Zih, ha, h], q⟩
theorem w_isN {d : D} {b : Bool} (h : isB d .non = some b) (q : Q (.bl b) H) : wE (isD d .non H) Q := ⟨_, _, by simp [isD, h], q⟩
theorem w_isnN {d : D} {b : Bool} (h : isB d .non = some b) (q : Q (.bl (!b)) H) : wE (Zz3 d .non H) Q := ⟨_, _, by simp [Zz3, h], q⟩
theorem w_truB {b : Bool} {P : Bool -> Prop} (h : P b) : ∃ c, Zr4 (.bl b) H = some c ∧ P c := ⟨b, rfl, h⟩
theorem w_isi' {d : D} {c t : String} {r : Bool} (ha : Zog c = true) (h : tyD d H = some t) (hr : (t == c || (t == "bool" && c == "int")) = r) (q : Q (.bl r) H) : wE (Zih [d, .ty c] H) Q := w_isi ha h (by rw [hr]; exact q)
theorem w_eqS' {a b : Str} {r : Bool} (hr : (a == b) = r) (q : Q (.bl r) H) : wE (eqD (.str a) (.str b) H) Q := w_eqS (by rw [hr]; exact q)
theorem w_eqI' {a b : Int} {r : Bool} (hr : (a == b) = r) (q : Q (.bl r) H) : wE (eqD (.int a) (.int b) H) Q := w_eqI (by rw [hr]; exact q)
theorem w_slhi {xs : List D} {k : Nat} (q : Q (.tup (xs.take k)) H) : wE (slD (.tup xs) none (some (k : Int)) H) Q := ⟨_, _, slhi, q⟩
theorem w_sllo {xs : List D} {k : Nat} (q : Q (.tup (xs.drop k)) H) : wE (slD (.tup xs) (some (k : Int)) none H) Q := ⟨_, _, sllo, q⟩
variable {I : List D -> Zgr -> HD -> Prop}
theorem w_isq {f : EF} (h : wE (f σ H) fun d H1 => ∃ xs own, Zg7 d H1 = some (xs, own) ∧ I xs own H1) : wI (iSq f σ H) I := by
 obtain ⟨d, H1, e, xs, own, e2, q⟩ := h
 exact ⟨xs, own, H1, by unfold iSq; rw [e]; simp only [Zb]; rw [e2]; rfl, q⟩
theorem w_itT {xs : List D} {P : List D -> Zgr -> Prop} (h : P xs []) : ∃ ys own, Zg7 (.tup xs) H = some (ys, own) ∧ P ys own := ⟨_, _, rfl, h⟩
theorem w_itR {n : Nat} {xs : List D} {P : List D -> Zgr -> Prop} (g : H[n]? = some (.lst xs)) (h : P xs [(n, .lst xs)]) : ∃ ys own, Zg7 (.ref n) H = some (ys, own) ∧ P ys own := ⟨_, _, by simp [Zg7, g], h⟩
theorem w_ir1 {f : AF} (h : wA (f σ H) fun ds H1 => ∃ j, ds = [.int j] ∧ Znd j ∧ I (Zar 0 j.toNat) [] H1) : wI (iR1 f σ H) I := by
 obtain ⟨ds, H1, e, j, rfl, s, q⟩ := h
 exact ⟨_, _, H1, by unfold iR1; rw [e]; exact if_pos s, q⟩
theorem w_enum {f : AF} (h : wA (f σ H) fun ds H1 => ∃ xs, ds = [.tup xs] ∧ I (Zcv 0 xs) [] H1) : wI (Zss f σ H) I := by
 obtain ⟨ds, H1, e, xs, rfl, q⟩ := h
 exact ⟨_, _, H1, by unfold Zss; rw [e]; rfl, q⟩
theorem Zuk {own : Zgr} {g : GF} {b : SF} (h : Zck own H) (q : R .nx σ H) : wS (Zia own g b [] σ H) R := ⟨_, _, _, by rw [Zia, if_pos h], q⟩
noncomputable def again (k : SD -> HD -> Prop) (R : FD -> SD -> HD -> Prop) : FD -> SD -> HD -> Prop
 | .nx, σ, H => k σ H
 | .ct, σ, H => k σ H
 | .bk, σ, H => R .nx σ H
 | .rt d, σ, H => R (.rt d) σ H
theorem Zp4 {own : Zgr} {g : GF} {b : SF} {x : D} {r : List D} (h : Zck own H) (q : wG (g x σ H) fun σ1 H1 => wS (b σ1 H1) (again (fun σ2 H2 => wS (Zia own g b r σ2 H2) R) R)) : wS (Zia own g b (x :: r) σ H) R := by
 obtain ⟨σ1, H1, e1, y, σ2, H2, e2, q⟩ := q
 rw [Zia, if_pos h, e1]
 simp only [Zb]
 rw [e2]
 cases y with
 | nx => exact q
 | ct => exact q
 | bk => exact ⟨_, _, _, rfl, q⟩
 | rt d => exact ⟨_, _, _, rfl, q⟩
theorem w_agn {k : SD -> HD -> Prop} (h : k σ H) : again k R .nx σ H := h
theorem w_agr {k : SD -> HD -> Prop} {d : D} (h : R (.rt d) σ H) : again k R (.rt d) σ H := h
theorem Zd7 {own : Zgr} {g : GF} {b : SF} (Inv : List D -> List D -> SD -> HD -> Prop) (ho : ∀ d t σ H, Inv d t σ H -> Zck own H)
  (st : ∀ d x t σ H, Inv d (x :: t) σ H -> wG (g x σ H) fun σ1 H1 => wS (b σ1 H1) (again (fun σ2 H2 => Inv (d ++ [x]) t σ2 H2) R))
  (q : ∀ d σ H, Inv d [] σ H -> R .nx σ H) : ∀ (t d : List D) (σ : SD) (H : HD), Inv d t σ H -> wS (Zia own g b t σ H) R
 | [], d, σ, H, i => Zuk (ho _ _ _ _ i) (q d σ H i)
 | x :: t, d, σ, H, i => by
  refine Zp4 (ho _ _ _ _ i) ?_
  obtain ⟨σ1, H1, e1, y, σ2, H2, e2, k⟩ := st d x t σ H i
  refine ⟨σ1, H1, e1, y, σ2, H2, e2, ?_⟩
  cases y with
  | nx => exact Zd7 Inv ho st q t _ σ2 H2 k
  | ct => exact Zd7 Inv ho st q t _ σ2 H2 k
  | bk => exact k
  | rt d => exact k
theorem Zhg {own : Zgr} {g : GF} {b : SF} (Inv : SD -> HD -> Prop) (ho : ∀ σ H, Inv σ H -> Zck own H) : ∀ (xs : List D) (st : ∀ x ∈ xs, ∀ σ H, Inv σ H -> wG (g x σ H) fun σ1 H1 => wS (b σ1 H1) (again Inv R)) (σ : SD) (H : HD), Inv σ H -> (∀ σ H, Inv σ H -> R .nx σ H) -> wS (Zia own g b xs σ H) R
 | [], st, σ, H, i, q => Zuk (ho _ _ i) (q σ H i)
 | x :: t, st, σ, H, i, q => by
  refine Zp4 (ho _ _ i) ?_
  obtain ⟨σ1, H1, e1, y, σ2, H2, e2, k⟩ := st x (by simp) σ H i
  refine ⟨σ1, H1, e1, y, σ2, H2, e2, ?_⟩
  cases y with
  | nx => exact Zhg Inv ho t (fun z hz => st z (by simp [hz])) σ2 H2 k q
  | ct => exact Zhg Inv ho t (fun z hz => st z (by simp [hz])) σ2 H2 k q
  | bk => exact k
  | rt d => exact k
theorem w_wh {t : TF} {b : SF} {n : Nat} (h : wT (t σ H) fun x H1 => br x (wS (b σ H1) (again (fun σ2 H2 => wS (sWh t b n σ2 H2) R) R)) (R .nx σ H1)) : wS (sWh t b (n + 1) σ H) R := by
 obtain ⟨x, H1, e, q1, q2⟩ := h
 rw [sWh]
 dsimp only
 rw [e]
 simp only [Zb]
 cases x with
 | true =>
  rw [if_pos rfl]
  obtain ⟨y, σ2, H2, e2, q⟩ := q1 rfl
  rw [e2]
  cases y with
  | nx => exact q
  | ct => exact q
  | bk => exact ⟨_, _, _, rfl, q⟩
  | rt d => exact ⟨_, _, _, rfl, q⟩
 | false => rw [if_neg (by simp)]; exact ⟨_, _, _, rfl, q2 rfl⟩
theorem Zl4 {t : TF} {b : SF} (Inv : Nat -> SD -> HD -> Prop) (st : ∀ m σ H, Inv m σ H -> wT (t σ H) fun x H1 => br x (∃ m', m = m' + 1 ∧ wS (b σ H1) (again (Inv m') R)) (R .nx σ H1)) : ∀ (n m : Nat) (σ : SD) (H : HD), m < n -> Inv m σ H -> wS (sWh t b n σ H) R
 | 0, m, σ, H, h, i => by omega
 | n + 1, m, σ, H, h, i => by
  refine w_wh ?_
  obtain ⟨x, H1, e, q1, q2⟩ := st m σ H i
  refine ⟨x, H1, e, fun hx => ?_, q2⟩
  obtain ⟨m', rfl, y, σ2, H2, e2, q⟩ := q1 hx
  refine ⟨y, σ2, H2, e2, ?_⟩
  cases y with
  | nx => exact Zl4 Inv st n m' σ2 H2 (by omega) q
  | ct => exact Zl4 Inv st n m' σ2 H2 (by omega) q
  | bk => exact q
  | rt d => exact q
theorem Znk {own : Zgr} {c0 : SD} {tt : TF} {te : EF} {Q : List D -> HD -> Prop} (h : Zck own H) (q : Q [] H) : wA (Zem own c0 tt te [] H) Q := ⟨_, _, by rw [Zem, if_pos h], q⟩
theorem Zjp {own : Zgr} {c0 : SD} {tt : TF} {te : EF} {x : D} {r : List D} {Q : List D -> HD -> Prop} (h : Zck own H)
  (q : wT (tt (some x :: c0) H) fun b H1 => br b (wE (te (some x :: c0) H1) fun e H2 => wA (Zem own c0 tt te r H2) fun es H3 => Q (e :: es) H3) (wA (Zem own c0 tt te r H1) Q)) : wA (Zem own c0 tt te (x :: r) H) Q := by
 obtain ⟨b, H1, e1, q1, q2⟩ := q
 rw [Zem, if_pos h, e1]
 simp only [Zb]
 cases b with
 | true =>
  obtain ⟨e, H2, e2, es, H3, e3, q⟩ := q1 rfl
  exact ⟨e :: es, H3, by rw [if_pos rfl, e2]; simp only [Zb]; rw [e3]; rfl, q⟩
 | false => rw [if_neg (by simp)]; exact q2 rfl
theorem w_yes {Q : Bool -> HD -> Prop} (q : Q true H) : wT (Zr0 σ H) Q := ⟨_, _, rfl, q⟩
theorem Zq1 {own : Zgr} {c0 : SD} {tt : TF} {te : EF} (Inv : List D -> List D -> List D -> HD -> Prop) (ho : ∀ d t o H, Inv d t o H -> Zck own H)
  (st : ∀ d x t o H, Inv d (x :: t) o H -> wT (tt (some x :: c0) H) fun b H1 => br b (wE (te (some x :: c0) H1) fun e H2 => Inv (d ++ [x]) t (o ++ [e]) H2) (Inv (d ++ [x]) t o H1))
  {Q : List D -> HD -> Prop} : ∀ (t d o : List D) (H : HD), Inv d t o H -> (∀ d o' H', Inv d [] (o ++ o') H' -> Q o' H') -> wA (Zem own c0 tt te t H) Q
 | [], d, o, H, i, q => Znk (ho _ _ _ _ i) (q d [] H (by rw [List.append_nil]; exact i))
 | x :: t, d, o, H, i, q => by
  refine Zjp (ho _ _ _ _ i) ?_
  obtain ⟨b, H1, e1, q1, q2⟩ := st d x t o H i
  refine ⟨b, H1, e1, fun h => ?_, fun h => ?_⟩
  ·obtain ⟨e, H2, e2, k⟩ := q1 h
   refine ⟨e, H2, e2, ?_⟩
   refine Zq1 Inv ho st t _ _ H2 k fun d' o' H' i' => q d' (e :: o') H' ?_
   rw [List.append_assoc] at i'; exact i'
  ·exact Zq1 Inv ho st t _ _ H1 (q2 h) fun d' o' H' i' => q d' o' H' i'
theorem Zd9 {own : Zgr} {c0 : SD} {tt : TF} (f : D -> Bool) (J : HD -> Prop) (ho : ∀ H, J H -> Zck own H) {Q : List D -> HD -> Prop} : ∀ (xs : List D) (st : ∀ x ∈ xs, ∀ H, J H -> wT (tt (some x :: c0) H) fun b H1 => b = f x ∧ J H1) (H : HD), J H -> (∀ H', J H' -> Q (xs.filter f) H') -> wA (Zem own c0 tt (Zac 0) xs H) Q
 | [], st, H, j, q => Znk (ho H j) (q H j)
 | x :: xs, st, H, j, q => by
  refine Zjp (ho H j) ?_
  obtain ⟨b, H1, e, rfl, j1⟩ := st x (by simp) H j
  refine ⟨_, H1, e, fun h => ?_, fun h => ?_⟩
  ·refine ⟨x, H1, rfl, ?_⟩
   refine Zd9 f J ho xs (fun y hy => st y (by simp [hy])) H1 j1 fun H' j' => ?_
   have := q H' j'
   rwa [List.filter_cons_of_pos h] at this
  ·refine Zd9 f J ho xs (fun y hy => st y (by simp [hy])) H1 j1 fun H' j' => ?_
   have := q H' j'
   rwa [List.filter_cons_of_neg (by rw [h]; simp)] at this
theorem Zhj {own : Zgr} {c0 : SD} {te : EF} (g : D -> D) (J : HD -> Prop) (ho : ∀ H, J H -> Zck own H) {Q : List D -> HD -> Prop} : ∀ (xs : List D) (st : ∀ x ∈ xs, ∀ H, J H -> wE (te (some x :: c0) H) fun d H1 => d = g x ∧ J H1) (H : HD), J H -> (∀ H', J H' -> Q (xs.map g) H') -> wA (Zem own c0 Zr0 te xs H) Q
 | [], st, H, j, q => Znk (ho H j) (q H j)
 | x :: xs, st, H, j, q => by
  refine Zjp (ho H j) (w_yes (w_bt ?_))
  obtain ⟨b, H1, e, rfl, j1⟩ := st x (by simp) H j
  exact ⟨_, H1, e, Zhj g J ho xs (fun y hy => st y (by simp [hy])) H1 j1 q⟩
theorem Zww {own : Zgr} {c0 : SD} {tt : TF} {te : EF} (f : D -> Bool) (g : D -> D) (J : HD -> Prop) (ho : ∀ H, J H -> Zck own H) {Q : List D -> HD -> Prop} : ∀ (xs : List D) (st : ∀ x ∈ xs, ∀ H, J H -> wT (tt (some x :: c0) H) fun b H1 => b = f x ∧ J H1) (st2 : ∀ x ∈ xs, f x = true -> ∀ H, J H -> wE (te (some x :: c0) H) fun d H1 => d = g x ∧ J H1) (H : HD), J H -> (∀ H', J H' -> Q ((xs.filter f).map g) H') -> wA (Zem own c0 tt te xs H) Q
 | [], st, st2, H, j, q => Znk (ho H j) (q H j)
 | x :: xs, st, st2, H, j, q => by
  refine Zjp (ho H j) ?_
  obtain ⟨b, H1, e, rfl, j1⟩ := st x (by simp) H j
  refine ⟨_, H1, e, fun h => ?_, fun h => ?_⟩
  ·obtain ⟨d, H2, e2, rfl, j2⟩ := st2 x (by simp) h H1 j1
   refine ⟨_, H2, e2, ?_⟩
   refine Zww f g J ho xs (fun y hy => st y (by simp [hy])) (fun y hy => st2 y (by simp [hy])) H2 j2 fun H' j' => ?_
   have := q H' j'
   rwa [List.filter_cons_of_pos h] at this
  ·refine Zww f g J ho xs (fun y hy => st y (by simp [hy])) (fun y hy => st2 y (by simp [hy])) H1 j1 fun H' j' => ?_
   have := q H' j'
   rwa [List.filter_cons_of_neg (by rw [h]; simp)] at this
end
structure Fm (S : List Nat) (H H' : HD) : Prop where
 old : ∀ (m : Nat) (o : DO), m ∉ S -> H[m]? = some o -> H'[m]? = some o ∨ ∃ kvs, o = .dic kvs false ∧ H'[m]? = some (.dic kvs true)
 len : H.length ≤ H'.length
theorem Fm.refl {S : List Nat} {H : HD} : Fm S H H := ⟨fun _ _ _ h => .inl h, Nat.le_refl _⟩
theorem Fm.trans {S : List Nat} {H H1 H2 : HD} (a : Fm S H H1) (b : Fm S H1 H2) : Fm S H H2 := by
 refine ⟨fun m o hm h => ?_, Nat.le_trans a.len b.len⟩
 rcases a.old m o hm h with h1 | ⟨kvs, rfl, h1⟩
 ·exact b.old m o hm h1
 ·rcases b.old m _ hm h1 with h2 | ⟨k2, e, _⟩
  ·exact .inr ⟨kvs, rfl, h2⟩
  ·cases e
theorem Fm.sub {S T : List Nat} {H H' : HD} (a : Fm S H H') (h : ∀ m ∈ S, m ∈ T) : Fm T H H' := ⟨fun m o hm q => a.old m o (fun z => hm (h m z)) q, a.len⟩
theorem Fm.app {S : List Nat} {H : HD} (L : HD) : Fm S H (H ++ L) := ⟨fun m o _ q => .inl (by
 have : m < H.length := (List.getElem?_eq_some_iff.mp q).1
 rw [List.getElem?_append_left this]; exact q), by simp⟩
theorem Fm.set {S : List Nat} {H : HD} {p : Nat} {o : DO} (h : p ∈ S) : Fm S H (H.set p o) := ⟨fun m u hm q => .inl (by rw [List.getElem?_set_ne (fun z => hm (by rw [← z]; exact h))]; exact q), by simp⟩
theorem Fm.new {S T : List Nat} {H H1 H' : HD} (a : Fm S H H1) (b : Fm T H1 H') (h : ∀ m ∈ T, m ∉ S -> H.length ≤ m) : Fm S H H' := by
 refine ⟨fun m o hm q => ?_, Nat.le_trans a.len b.len⟩
 have lt : m < H.length := (List.getElem?_eq_some_iff.mp q).1
 have ht : m ∉ T := fun z => by have := h m z hm; omega
 rcases a.old m o hm q with h1 | ⟨kvs, rfl, h1⟩
 ·exact b.old m o ht h1
 ·rcases b.old m _ ht h1 with h2 | ⟨k2, e, _⟩
  ·exact .inr ⟨kvs, rfl, h2⟩
  ·cases e
theorem Fm.lst {S : List Nat} {H H' : HD} (x : Fm S H H') {m : Nat} {xs : List D} (hm : m ∉ S) (h : H[m]? = some (.lst xs)) : H'[m]? = some (.lst xs) := by
 rcases x.old m _ hm h with h1 | ⟨k2, e, _⟩
 ·exact h1
 ·cases e
theorem isl {H : HD} {n : Nat} {xs : List D} (h : H[n]? = some (.lst xs)) : Zml (.ref n) H = true := by simp [Zml, h]
theorem Zus {H : HD} {n : Nat} {o : DO} (h : H[n]? = some o) : Zck [(n, o)] H := by intro p hp; simp at hp; subst hp; exact h
theorem tyR {H : HD} {n : Nat} {xs : List D} (h : H[n]? = some (.lst xs)) : tyD (.ref n) H = some "list" := by simp [tyD, h]
theorem Zjz {H : HD} : Zck [] H := by intro p hp; cases hp
theorem last {H : HD} {o : DO} : (H ++ [o])[H.length]? = some o := by simp
theorem appL {H : HD} {n : Nat} {o u : DO} (h : H[n]? = some o) : (H ++ [u])[n]? = some o := by
 rw [List.getElem?_append_left (List.getElem?_eq_some_iff.mp h).1]; exact h
theorem Ya2 {H : HD} {n m : Nat} {o u : DO} (hn : n ≠ m) (h : H[m]? = some o) : (H.set n u)[m]? = some o := by rw [List.getElem?_set_ne hn]; exact h
theorem Zrg {H : HD} {n : Nat} {o u : DO} (h : H[n]? = some u) : (H.set n o)[n]? = some o := List.getElem?_set_self (List.getElem?_eq_some_iff.mp h).1
structure Fine (d : D) (x : PyData) (h : Nat) : Prop where
 to : ∀ H n, toP H n d = some x
 lay : x.canLay0 = true
 dep : x.depth ≤ h
theorem Fine.int (i : Int) : Fine (.int i) (.int i) 0 := ⟨fun H n => Zh2 H n i, rfl, Nat.le_refl _⟩
theorem Fine.bl (b : Bool) : Fine (.bl b) (.bool b) 0 := ⟨fun H n => Zvi H n b, rfl, Nat.le_refl _⟩
theorem Fine.str {s : Str} (h : PyData.strOk s = true) : Fine (.str s) (.str s) 0 := ⟨fun H n => Zi5 H n s, h, Nat.le_refl _⟩
structure Fines (ds : List D) (xs : List PyData) (h : Nat) : Prop where
 to : ∀ H n, Zik H n ds = some xs
 lay : PyData.canLayAll0 xs = true
 dep : PyData.depthAll xs ≤ h
 len : xs.length = ds.length
theorem Fines.nil {h : Nat} : Fines [] [] h := ⟨fun H n => by rw [Zik], rfl, Nat.zero_le _, rfl⟩
theorem Fines.cons {d : D} {x : PyData} {ds : List D} {xs : List PyData} {h : Nat} (a : Fine d x h) (b : Fines ds xs h) : Fines (d :: ds) (x :: xs) h :=
 ⟨fun H n => by rw [Zik, a.to, b.to]; rfl, by simp [PyData.canLayAll0, a.lay, b.lay], by simp only [PyData.depthAll]; exact Nat.max_le.mpr ⟨a.dep, b.dep⟩, by simp [b.len]⟩
theorem Fines.of {h : Nat} : ∀ ds : List D, (∀ d ∈ ds, ∃ x, Fine d x h) -> ∃ xs, Fines ds xs h
 | [], _ => ⟨[], .nil⟩
 | d :: ds, f => by
  obtain ⟨x, a⟩ := f d (by simp)
  obtain ⟨xs, b⟩ := Fines.of ds fun e he => f e (by simp [he])
  exact ⟨x :: xs, .cons a b⟩
theorem Fine.tup {ds : List D} {xs : List PyData} {h : Nat} (f : Fines ds xs h) : Fine (.tup ds) (.tuple xs) (h + 1) :=
 ⟨fun H n => by cases n <;> rw [toP, f.to] <;> rfl, f.lay, Nat.succ_le_succ f.dep⟩
theorem Fine.dat {d : D} {x : PyData} {h : Nat} (f : Fine d x h) (l : h ≤ 30) (H : HD) : DL.dat d H = some x := by
 unfold DL.dat
 rw [f.to]
 have : x.depth ≤ 30 := Nat.le_trans f.dep l
 simp [okP, f.lay, this]
theorem Fines.dat {ds : List D} {xs : List PyData} {h : Nat} (f : Fines ds xs h) (l : h < 30) {H : HD} {p : Nat} (g : H[p]? = some (.lst ds)) : DL.dat (.ref p) H = some (.list xs) := by
 unfold DL.dat
 rw [toP]
 simp only [g]
 rw [f.to]
 have : (PyData.list xs).depth ≤ 30 := Nat.le_trans (Nat.succ_le_succ f.dep) l
 have h2 : (PyData.list xs).canLay0 = true := f.lay
 simp [okP, h2, this]
mutual
theorem Zgv : ∀ x : PyData, x.canLay0 = true -> PyData.eqv x x = true
 | .none, _ => by simp [PyData.eqv]
 | .bool _, _ => by simp [PyData.eqv]
 | .int _, _ => by simp [PyData.eqv]
 | .str _, _ => by simp [PyData.eqv]
 | .list xs, h => by rw [PyData.eqv]; exact Zfc xs h
 | .tuple xs, h => by rw [PyData.eqv]; exact Zfc xs h
 | .dict _, h => by cases h
theorem Zfc : ∀ xs : List PyData, PyData.canLayAll0 xs = true -> PyData.eqvAll xs xs = true
 | [], _ => by rw [PyData.eqvAll]
 | x :: xs, h => by
  simp only [PyData.canLayAll0, Bool.and_eq_true] at h
  rw [PyData.eqvAll, Zgv x h.1, Zfc xs h.2]; rfl
end
theorem Zg8 {a b : D} {x y : PyData} {H : HD} (h1 : dat a H = some x) (h2 : dat b H = some y) : eqD a b H = some (.bl (PyData.eqv x y), H) := by
 unfold eqD
 cases e : Zr9 a b with
 | none => rw [h1, h2]; rfl
 | some p =>
  obtain ⟨s, t⟩ := p
  unfold Zr9 at e
  split at e
  ·cases e
   unfold dat at h1 h2
   rw [Zi5] at h1 h2
   simp only [Zb] at h1 h2
   split at h1
   ·split at h2
    ·cases h1; cases h2; simp [PyData.eqv]
    ·cases h2
   ·cases h1
  ·cases e
theorem Zgd {a b : D} {x y : PyData} {H : HD} (h1 : dat a H = some x) (h2 : dat b H = some y) : neD a b H = some (.bl (!PyData.eqv x y), H) := by
 unfold neD
 cases e : Zr9 a b with
 | none => rw [h1, h2]; rfl
 | some p =>
  obtain ⟨s, t⟩ := p
  unfold Zr9 at e
  split at e
  ·cases e
   unfold dat at h1 h2
   rw [Zi5] at h1 h2
   simp only [Zb] at h1 h2
   split at h1
   ·split at h2
    ·cases h1; cases h2; simp [PyData.eqv]; rfl
    ·cases h2
   ·cases h1
  ·cases e
variable {H : HD} {Q : D -> HD -> Prop}
theorem w_eqF {a b : D} {x y : PyData} {h k : Nat} (f : Fine a x h) (g : Fine b y k) (hh : h ≤ 30) (hk : k ≤ 30) (q : Q (.bl (PyData.eqv x y)) H) : wE (eqD a b H) Q := ⟨_, _, Zg8 (f.dat hh H) (g.dat hk H), q⟩
theorem Zwo {a b : D} {x y : PyData} {h k : Nat} (f : Fine a x h) (g : Fine b y k) (hh : h ≤ 30) (hk : k ≤ 30) (q : Q (.bl (!PyData.eqv x y)) H) : wE (neD a b H) Q := ⟨_, _, Zgd (f.dat hh H) (g.dat hk H), q⟩
theorem Zvr {xs : List D} {ys : List PyData} {h : Nat} (f : Fines xs ys h) : PyData.eqv (.tuple ys) (.tuple []) = xs.isEmpty := by
 have := f.len
 cases ys with
 | nil => cases xs with
  | nil => rfl
  | cons _ _ => simp at this
 | cons p ps => cases xs with
  | nil => simp at this
  | cons _ _ => simp [PyData.eqv, PyData.eqvAll]
theorem Zp9 {xs : List D} {ys : List PyData} {h : Nat} (f : Fines xs ys h) (hh : h < 30) (q : Q (.bl xs.isEmpty) H) : wE (eqD (.tup xs) (.tup []) H) Q :=
 w_eqF (Fine.tup f) (Fine.tup (Fines.nil (h := 0))) (by omega) (by omega) (by rw [Zvr f]; exact q)
theorem w_niL {a : D} {x : PyData} {h k p : Nat} {ds : List D} {xs : List PyData} (f : Fine a x h) (g : Fines ds xs k) (hh : h ≤ 30) (hk : k < 30) (hp : H[p]? = some (.lst ds)) (q : Q (.bl (!xs.any fun z => PyData.eqv z x)) H) : wE (niD a (.ref p) H) Q :=
 ⟨_, _, by unfold niD; rw [f.dat hh, Zb, g.dat hk hp]; rfl, q⟩
theorem Yaj {a : D} {x : PyData} {h k p : Nat} {ds : List D} {xs : List PyData} (f : Fine a x h) (g : Fines ds xs k) (hh : h ≤ 30) (hk : k < 30) (hp : H[p]? = some (.lst ds)) (q : Q (.bl (xs.any fun z => PyData.eqv z x)) H) : wE (inD a (.ref p) H) Q :=
 ⟨_, _, by unfold inD; rw [f.dat hh, Zb, g.dat hk hp]; rfl, q⟩
theorem w_niT {a : D} {x : PyData} {h k : Nat} {ds : List D} {xs : List PyData} (f : Fine a x h) (g : Fines ds xs k) (hh : h ≤ 30) (hk : k < 30) (q : Q (.bl (!xs.any fun z => PyData.eqv z x)) H) : wE (niD a (.tup ds) H) Q :=
 ⟨_, _, by unfold niD; rw [f.dat hh, Zb, (Fine.tup g).dat hk]; rfl, q⟩
theorem w_inT {a : D} {x : PyData} {h k : Nat} {ds : List D} {xs : List PyData} (f : Fine a x h) (g : Fines ds xs k) (hh : h ≤ 30) (hk : k < 30) (q : Q (.bl (xs.any fun z => PyData.eqv z x)) H) : wE (inD a (.tup ds) H) Q :=
 ⟨_, _, by unfold inD; rw [f.dat hh, Zb, (Fine.tup g).dat hk]; rfl, q⟩
theorem w_neI {i j : Int} (q : Q (.bl (!(i == j))) H) : wE (neD (.int i) (.int j) H) Q := Zwo (.int i) (.int j) (by omega) (by omega) (by simpa [PyData.eqv] using q)
noncomputable def wX (n : Option (FD × SD × HD)) (y : Option (Int × HD)) (R : Int -> HD -> Prop) : Prop := n = none ∧ ∃ i H, y = some (i, H) ∧ R i H
section
variable {σ : SD} {H : HD} {R : Int -> HD -> Prop}
theorem Zvd {f g : SF} {b : YFs} (h : wS (f σ H) (Zr1 (fun σ1 H1 => wX (g σ1 H1) (b σ1 H1) R) fun _ _ _ => False)) : wX (Zaf f g σ H) (Zxp f b σ H) R := by
 obtain ⟨x, σ1, H1, e, k⟩ := h
 unfold Zaf Zxp
 rw [e]
 simp only [Zb]
 cases x with
 | nx => exact k
 | bk => exact k.elim
 | ct => exact k.elim
 | rt d => exact k.elim
theorem Zsi {f g : SF} {σ : SD} {H : HD} (e : f σ H = none) : Zaf f g σ H = none := by unfold Zaf; rw [e]; rfl
theorem Zu4 {f g : SF} {a : YFs} (h : wX (f σ H) (a σ H) R) : wX (Zaf f g σ H) (a σ H) R := ⟨Zsi h.1, h.2⟩
theorem wx_if {t : TF} {f g : SF} {a b : YFs} (h : wT (t σ H) fun c H1 => br c (wX (f σ H1) (a σ H1) R) (wX (g σ H1) (b σ H1) R)) : wX (sIf t f g σ H) (yIf t a b σ H) R := by
 obtain ⟨c, H1, e, q1, q2⟩ := h
 rw [Zzc e]
 unfold yIf
 rw [e]
 simp only [Zb]
 cases c with
 | true => rw [if_pos rfl, if_pos rfl]; exact q1 rfl
 | false => rw [if_neg (by simp), if_neg (by simp)]; exact q2 rfl
theorem Zr7 {g : SF} {fe : EF} (h : wE (fe σ H) fun d H1 => ∃ i, d = .int i ∧ i.natAbs < 1000000 ∧ R i H1) : wX (Zaf Zz6 g σ H) (Ziv fe σ H) R := by
 obtain ⟨d, H1, e, i, rfl, hi, q⟩ := h
 refine ⟨rfl, i, H1, ?_, q⟩
 unfold Ziv
 rw [e]
 exact if_pos hi
theorem Yau {it : ItF} {g : GF} {b : SF} {yb : YFs} (h : wI (it σ H) fun xs own H1 => wX (Zia own g b xs σ H1) (Zfx own g b yb xs σ H1) R) : wX (Zi3 it g b σ H) (Zza it g b yb σ H) R := by
 obtain ⟨xs, own, H1, e, q⟩ := h
 unfold Zi3 Zza; rw [e]; exact q
theorem Zwe {own : Zgr} {g : GF} {b : SF} {yb : YFs} {x : D} {t : List D} (h : Zck own H) (q : wG (g x σ H) fun σ1 H1 => wS (b σ1 H1) (again (fun σ2 H2 => wX (Zia own g b t σ2 H2) (Zfx own g b yb t σ2 H2) R) fun _ _ _ => False)) :
  wX (Zia own g b (x :: t) σ H) (Zfx own g b yb (x :: t) σ H) R := by
 obtain ⟨σ1, H1, e1, y, σ2, H2, e2, q⟩ := q
 rw [Zia, Zfx, if_pos h, if_pos h, e1]
 simp only [Zb]
 rw [e2]
 cases y with
 | nx => exact q
 | ct => exact q
 | bk => exact q.elim
 | rt d => exact q.elim
theorem Zwp {own : Zgr} {g : GF} {b : SF} {yb : YFs} {x : D} {t : List D} (h : Zck own H) (q : wG (g x σ H) fun σ1 H1 => wX (b σ1 H1) (yb σ1 H1) R) :
  wX (Zia own g b (x :: t) σ H) (Zfx own g b yb (x :: t) σ H) R := by
 obtain ⟨σ1, H1, e1, e2, i, H2, e3, q⟩ := q
 rw [Zia, Zfx, if_pos h, if_pos h, e1]
 simp only [Zb]
 rw [e2]
 exact ⟨rfl, i, H2, e3, q⟩
noncomputable def wXD (n : Option (D × HD)) (y : Option (Int × HD)) (R : Int -> HD -> Prop) : Prop := n = none ∧ ∃ i H, y = some (i, H) ∧ R i H
theorem Zt8 {n N : Nat} {b : SF} {yb : YFs} {ds : List D} (hl : ds.length = n) (h : wX (b (ds.map some ++ List.replicate (N - ds.length) none) H) (yb (ds.map some ++ List.replicate (N - ds.length) none) H) R) : wXD (Za5 n N b ds H) (Zsb n N yb ds H) R := by
 obtain ⟨e, q⟩ := h
 unfold Za5 Zsb
 rw [if_pos hl, if_pos hl, e]
 exact ⟨rfl, q⟩
theorem Zum {iE : Nat} {b : SF} {y : YFs} {su : Int -> SF} {Q : FD -> SD -> HD -> Prop} (h : wX (b σ H) (y σ H) fun i H1 => wS (su i (σ.set iE none) H1) (Zr1 (fun σ2 H2 => Q .nx (σ2.set iE none) H2) fun _ _ _ => False)) : wS (Zmj iE b y su σ H) Q := by
 obtain ⟨e, i, H1, e1, x, σ2, H2, e2, k⟩ := h
 unfold Zmj
 rw [e]
 simp only
 rw [e1]
 simp only [Zb]
 rw [e2]
 cases x with
 | nx => exact ⟨_, _, _, rfl, k⟩
 | bk => exact k.elim
 | ct => exact k.elim
 | rt d => exact k.elim
theorem Znh {n : Nat} {F : FF} {Y : YFF} {fa : AF} {g : SF} (h : wA (fa σ H) fun ds H1 => ds.length = n ∧ wXD (F ds H1) (Y ds H1) R) : wX (Zaf (Zds (Zal n F fa)) g σ H) (Zex n Y fa σ H) R := by
 obtain ⟨ds, H1, e, hl, e1, q⟩ := h
 refine ⟨Zsi ?_, ?_⟩
 ·unfold Zds Zal; rw [e]; simp only [Zb]; rw [if_pos hl, e1]; rfl
 ·unfold Zex; rw [e]; simp only [Zb]; rw [if_pos hl]; exact q
theorem Zsm {n k : Nat} {F : FF} {Y : YFF} {fa : AF} {g : SF} (h : wA (fa σ H) fun ds H1 => ds.length = n ∧ wXD (F ds H1) (Y ds H1) R) : wX (Zaf (Zav k (Zal n F fa)) g σ H) (Zex n Y fa σ H) R := by
 obtain ⟨ds, H1, e, hl, e1, q⟩ := h
 refine ⟨Zsi ?_, ?_⟩
 ·unfold Zav Zal; rw [e]; simp only [Zb]; rw [if_pos hl, e1]; rfl
 ·unfold Zex; rw [e]; simp only [Zb]; rw [if_pos hl]; exact q
end
end WP
set_option maxHeartbeats 8000000
namespace K08
open PySem L2 DL
noncomputable def Zdl : SF :=
 (Zaf (Zaz (eAn (eCB Zih (Zaa (Zac 0) (Zaa (eC (.ty "int")) Zae))) (eNo (eCB Zih (Zaa (Zac 0) (Zaa (eC (.ty "bool")) Zae))))))
 Zak)
noncomputable def Zes : FF := Za5 1 1 Zdl
noncomputable def Zbr : SF :=
 (Zaf (Zaz (eAn (Zal 1 Zes (Zaa (Zac 0) Zae)) (eCh leD ltD (eC (.int 0)) (Zac 0) (Zac 1))))
 Zak)
noncomputable def Zbb : FF := Za5 2 2 Zbr
noncomputable def Zay : SF :=
 (Zaf (Zaz (eAn (Zal 1 Zes (Zaa (Zac 2) Zae)) (eAn (eCh leD leD (eC (.int 1)) (Zac 2) (eCB Zbv (Zaa (Zac 0) Zae))) (eOp neD (eOp ixD (Zac 0) (eOp Zl3 (Zac 2) (eC (.int 1)))) (Zac 1)))))
 Zak)
noncomputable def Zbz : FF := Za5 3 3 Zay
noncomputable def Zdn : SF :=
 (Zaf (Zav 3 (eCB Zbv (Zaa (Zac 2) Zae)))
 (Zaf (sWh (tAn (tOf (eOp gtD (Zac 3) (eC (.int 0)))) (tOf (eOp eqD (eOp ixD (Zac 0) (eOp Zl3 (eCB Zxr (Zaa (eOp ixD (Zac 2) (eOp Zl3 (Zac 3) (eC (.int 1)))) Zae)) (eC (.int 1)))) (Zac 1)))) (Zaf (sAug (fun i j => i - j) 3 (eC (.int 1)))
 Zak) 20)
 (Zaf (Zaz (eSl (Zac 2) Zbq (Zbh (Zac 3))))
 Zak)))
noncomputable def Zgi : FF := Za5 3 4 Zdn
noncomputable def Zeh : SF :=
 (Zaf (Zaz (eCB Zcn (Zaa (eLC (iSq (Zac 0)) [1] (tOf (eOp neD (Zac 0) (Zac 1))) (Zac 0)) Zae)))
 Zak)
noncomputable def Zft : FF := Za5 2 2 Zeh
noncomputable def Zld : SF :=
 (Zaf (Zav 2 (eCB Zhn (Zaa (Zac 0) Zae)))
 (Zaf (Zi3 (iSq (Zac 1)) (gNm 3) (Zaf (sIf (tOf (eOp inD (eUn Zl1 (Zac 3)) (Zac 0))) (Zaf (Zaz (eC .non))
 Zak) Zak)
 (Zaf (sIf (tOf (eOp niD (Zac 3) (Zac 0))) (Zaf (Zds (eLM Zbk (Zac 2) (Zaa (Zac 3) Zae)))
 Zak) Zak)
 Zak)))
 (Zaf (Zaz (eCB Zcn (Zaa (eCB Zk1 (Zaa (Zac 2) Zae)) Zae)))
 Zak)))
noncomputable def Zrs : FF := Za5 2 4 Zld
noncomputable def Zfj : SF :=
 (Zaf (sIf (Zga (tOf (eOp niD (Zac 2) (Zac 0))) (tOf (eOp niD (eUn Zl1 (Zac 2)) (Zac 1)))) (Zaf (Zaz (eC .non))
 Zak) Zak)
 (Zaf (Zaz (Zal 2 Zrs (Zaa (Zal 2 Zft (Zaa (Zac 0) (Zaa (Zac 2) Zae))) (Zaa (Zal 2 Zft (Zaa (Zac 1) (Zaa (eUn Zl1 (Zac 2)) Zae))) Zae))))
 Zak))
noncomputable def Zjs : FF := Za5 3 3 Zfj
noncomputable def Zbo : SF :=
 (Zaf (sIf (Zga (tOf (eOp neD (eCB Zbv (Zaa (Zac 3) Zae)) (eC (.int 2)))) (tNo (Zgq (Zal 2 Zbb (Zaa (eOp ixD (Zac 3) (eC (.int 1))) (Zaa (eCB Zbv (Zaa (Zac 2) Zae)) Zae)))))) (Zaf (Zaz (eC .non))
 Zak) Zak)
 (Zaf (Zaz (Zal 3 Zgi (Zaa (Zac 0) (Zaa (Zac 1) (Zaa (eOp ixD (Zac 2) (eOp ixD (Zac 3) (eC (.int 1)))) Zae)))))
 Zak))
noncomputable def Zda : FF := Za5 4 4 Zbo
noncomputable def Za9 : SF :=
 (Zaf (sIf (Zga (tOf (eOp neD (eCB Zbv (Zaa (Zac 3) Zae)) (eC (.int 4)))) (Zga (tNo (Zgq (Zal 2 Zbb (Zaa (eOp ixD (Zac 3) (eC (.int 1))) (Zaa (eCB Zbv (Zaa (Zac 2) Zae)) Zae))))) (tNo (Zgq (Zal 2 Zbb (Zaa (eOp ixD (Zac 3) (eC (.int 2))) (Zaa (eCB Zbv (Zaa (Zac 2) Zae)) Zae))))))) (Zaf (Zaz (eC .non))
 Zak) Zak)
 (Zaf (sIf (tNo (Zgq (Zal 3 Zbz (Zaa (Zac 0) (Zaa (Zac 1) (Zaa (eOp ixD (Zac 3) (eC (.int 3))) Zae)))))) (Zaf (Zaz (eC .non))
 Zak) Zak)
 (Zaf (Zaz (Zal 3 Zjs (Zaa (eOp ixD (Zac 2) (eOp ixD (Zac 3) (eC (.int 1)))) (Zaa (eOp ixD (Zac 2) (eOp ixD (Zac 3) (eC (.int 2)))) (Zaa (eOp ixD (Zac 3) (eC (.int 3))) Zae)))))
 Zak)))
noncomputable def Zcf : FF := Za5 4 4 Za9
noncomputable def Zca : SF :=
 (Zaf (sIf (Zga (tOf (eOp neD (eCB Zbv (Zaa (Zac 1) Zae)) (eC (.int 2)))) (Zga (tOf (eOp neD (eOp ixD (Zac 1) (eC (.int 0))) (eC (.str "row")))) (tNo (Zgq (Zal 2 Zbb (Zaa (eOp ixD (Zac 1) (eC (.int 1))) (Zaa (eCB Zbv (Zaa (eOp ixD (Zac 0) (eC (.int 1))) Zae)) Zae))))))) (Zaf (Zaz (eC .non))
 Zak) Zak)
 (Zaf (Zaz (eOp ixD (eOp ixD (Zac 0) (eC (.int 1))) (eOp ixD (Zac 1) (eC (.int 1)))))
 Zak))
noncomputable def Zel : FF := Za5 2 2 Zca
noncomputable def Zed : SF :=
 (Zaf (sIf (Zga (tNo (Zgq (eCB Zih (Zaa (Zac 4) (Zaa (eC (.ty "tuple")) Zae))))) (tOf (eOp eqD (eCB Zbv (Zaa (Zac 4) Zae)) (eC (.int 0))))) (Zaf (Zaz (eC .non))
 Zak) Zak)
 (Zaf (sIf (tOf (eOp eqD (eOp ixD (Zac 4) (eC (.int 0))) (eC (.str "less")))) (Zaf (Zaz (Zal 4 Zda (Zaa (eOp ixD (Zac 0) (eC (.int 0))) (Zaa (Zac 1) (Zaa (Zac 3) (Zaa (Zac 4) Zae))))))
 Zak) Zak)
 (Zaf (sIf (tOf (eOp eqD (eOp ixD (Zac 4) (eC (.int 0))) (eC (.str "joined")))) (Zaf (Zaz (Zal 4 Zcf (Zaa (eOp ixD (Zac 0) (eC (.int 0))) (Zaa (Zac 1) (Zaa (Zac 3) (Zaa (Zac 4) Zae))))))
 Zak) Zak)
 (Zaf (Zaz (Zki 2 2 "claims_row" Zel (Zaa (Zac 0) (Zaa (Zac 4) Zae))))
 Zak))))
noncomputable def Zcq : FF := Za5 5 5 Zed
noncomputable def Zb5 : SF :=
 (Zaf (Zav 4 (Zch Zae))
 (Zaf (Zi3 (Zli (Zaa (Zac 3) Zae)) (gTp 2 (gCn (gNm 5) (gCn (gNm 6) gNl))) (Zaf (Zav 7 (Zal 5 Zcq (Zaa (Zac 0) (Zaa (Zac 1) (Zaa (Zac 2) (Zaa (Zac 4) (Zaa (Zac 6) Zae)))))))
 (Zaf (sIf (tOf (eOp isD (Zac 7) (eC .non))) (Zaf Zz6
 Zak) Zak)
 (Zaf (Zds (eLM Zbk (Zac 4) (Zaa (Zac 7) Zae)))
 Zak))))
 (Zaf (Zaz (Zac 4))
 Zak)))
noncomputable def Zdk : FF := Za5 4 8 Zb5
noncomputable def Zcx : YFs :=
 (Zxp (Zav 4 (Zch Zae))
 (Zza (Zli (Zaa (Zac 3) Zae)) (gTp 2 (gCn (gNm 5) (gCn (gNm 6) gNl))) (Zaf (Zav 7 (Zal 5 Zcq (Zaa (Zac 0) (Zaa (Zac 1) (Zaa (Zac 2) (Zaa (Zac 4) (Zaa (Zac 6) Zae)))))))
 (Zaf (sIf (tOf (eOp isD (Zac 7) (eC .non))) (Zaf Zz6
 Zak) Zak)
 (Zaf (Zds (eLM Zbk (Zac 4) (Zaa (Zac 7) Zae)))
 Zak))) (Zxp (Zav 7 (Zal 5 Zcq (Zaa (Zac 0) (Zaa (Zac 1) (Zaa (Zac 2) (Zaa (Zac 4) (Zaa (Zac 6) Zae)))))))
 (yIf (tOf (eOp isD (Zac 7) (eC .non))) (Ziv (Zac 5)) yNo))))
noncomputable def Zer : YFF := Zsb 4 8 Zcx
noncomputable def Zdt : SF :=
 (Zaf (sIf (tNo (Zgq (eCB Zih (Zaa (Zac 3) (Zaa (eC (.ty "list")) Zae))))) (Zaf (Zaz (eC (.bl false)))
 Zak) Zak)
 (Zaf (Zmi (Zaf (Zav 4 (Zal 4 Zdk (Zaa (Zac 0) (Zaa (Zac 1) (Zaa (Zac 2) (Zaa (Zac 3) Zae))))))
 Zak) (Zex 4 Zer (Zaa (Zac 0) (Zaa (Zac 1) (Zaa (Zac 2) (Zaa (Zac 3) Zae))))) (Zaf (Zaz (eC (.bl false)))
 Zak))
 (Zaf (Zaz (eAn (eOp gtD (eCB Zbv (Zaa (Zac 4) Zae)) (eC (.int 0))) (eOp eqD (eOp ixD (Zac 4) (eUn Zl1 (eC (.int 1)))) (Zcz Zae))))
 Zak)))
noncomputable def Zi0 : FF := Za5 4 5 Zdt
noncomputable def Zcw : SF :=
 (Zaf (Zaz (Zal 4 Zdk (Zaa (Zac 0) (Zaa (eC (.str "all")) (Zaa (eC (.ty "claims_row")) (Zaa (Zac 1) Zae))))))
 Zak)
noncomputable def Zb9 : FF := Za5 2 2 Zcw
noncomputable def Zdo : YFs :=
 (Zex 4 Zer (Zaa (Zac 0) (Zaa (eC (.str "all")) (Zaa (eC (.ty "claims_row")) (Zaa (Zac 1) Zae)))))
noncomputable def Zfn : YFF := Zsb 2 2 Zdo
noncomputable def Zbp : SF :=
 (Zaf (Zaz (Zal 4 Zi0 (Zaa (Zac 0) (Zaa (eC (.str "all")) (Zaa (eC (.ty "claims_row")) (Zaa (Zac 1) Zae))))))
 Zak)
noncomputable def Zdb : FF := Za5 2 2 Zbp
noncomputable def Zei : SF :=
 (Zaf (Zav 2 (eOp ixD (Zch (Zaa (eC (.int 2147483647)) (Zaa (eC (.int 2147483629)) (Zaa (eC (.int 2147483587)) (Zaa (eC (.int 2147483579)) (Zaa (eC (.int 2147483563)) (Zaa (eC (.int 2147483549)) (Zaa (eC (.int 2147483543)) Zae)))))))) (eOp Zbx (Zac 1) (eC (.int 7)))))
 (Zaf (Zav 3 (eOp Zbx (eOp Zkk (eOp Zbg (eOp Zbx (Zac 0) (eC (.int 998244353))) (eOp Zkk (eC (.int 104729)) (eOp Zbg (Zac 1) (eC (.int 1))))) (eOp Zbg (eOp Zbg (eOp Zkk (Zac 1) (Zac 1)) (eOp Zkk (eC (.int 7)) (Zac 1))) (eC (.int 13)))) (Zac 2)))
 (Zaf (Zav 3 (eOp Zbx (eOp Zu5 (Zac 3) (eC (.int 5))) (eC (.int 1000000007))))
 (Zaf (Zav 3 (eOp Zbx (eOp Zbg (eOp Zbg (eOp Zkk (Zac 3) (eC (.int 48271))) (eOp Zkk (eC (.int 31)) (Zac 1))) (eC (.int 5))) (Zac 2)))
 (Zaf (Zaz (eOp Zjt (eOp Zbx (eOp Zu5 (Zac 3) (eC (.int 3))) (eC (.int 998244353))) (eC (.int 8))))
 Zak)))))
noncomputable def Zhl : FF := Za5 2 4 Zei
noncomputable def Zcd : SF :=
 (Zaf (Zav 2 (Zch Zae))
 (Zaf (Zav 3 (eCB Zxr (Zaa (Zac 0) Zae)))
 (Zaf (Zav 4 (eOp geD (Zac 3) (eOp Zu5 (eC (.int 10)) (eC (.int 18)))))
 (Zaf (Zi3 (iR1 (Zaa (Zac 1) Zae)) (gNm 5) (Zaf (sIf (tAn (Zgq (Zac 4)) (tOf (eOp gtD (Zac 3) (eC (.int 0))))) (Zaf (Zds (eLM Zbk (Zac 2) (Zaa (eOp Zbx (Zac 3) (eC (.int 10007))) Zae)))
 (Zaf (Zav 3 (eOp Zjt (Zac 3) (eC (.int 10007))))
 Zak)) (Zaf (Zds (eLM Zbk (Zac 2) (Zaa (Zal 2 Zhl (Zaa (Zac 0) (Zaa (Zac 5) Zae))) Zae)))
 Zak))
 Zak))
 (Zaf (Zaz (Zac 2))
 Zak)))))
noncomputable def Za4 : FF := Za5 2 6 Zcd
noncomputable def Zfr : SF :=
 (Zaf (sIf (tOf (eOp ltD (Zac 1) (eCB Zbv (Zaa (Zac 0) Zae)))) (Zaf (Zaz (eOp ixD (Zac 0) (Zac 1)))
 Zak) Zak)
 (Zaf (Zaz (eOp Zbg (eOp Zbg (eOp Zkk (eC (.int 67)) (Zac 1)) (eC (.int 19))) (eCB Zbv (Zaa (Zac 0) Zae))))
 Zak))
noncomputable def Zcl : FF := Za5 2 2 Zfr
noncomputable def Zct : SF :=
 (Zaf (Zav 2 (Zch Zae))
 (Zaf (Zi3 (iR1 (Zaa (Zac 1) Zae)) (gNm 3) (Zaf (Zav 4 (eOp ixD (Zch (Zaa (eC (.str "all")) (Zaa (eC (.str "some")) Zae))) (eOp Zbx (eOp ixD (Zac 0) (eOp Zbg (eC (.int 1)) (Zac 3))) (eC (.int 2)))))
 (Zaf (sIf (tOf (eOp eqD (eOp Zbx (eOp ixD (Zac 0) (eC (.int 0))) (eC (.int 4))) (eC (.int 1)))) (Zaf (Zav 4 (eOp ixD (Zch (Zaa (eC (.str "some")) (Zaa (eC (.str "all")) Zae))) (eOp Zbx (eOp Zbg (Zac 3) (eOp ixD (Zac 0) (eC (.int 1)))) (eC (.int 2)))))
 Zak) Zak)
 (Zaf (sIf (tOf (eOp eqD (eOp Zbx (eOp ixD (Zac 0) (eC (.int 0))) (eC (.int 4))) (eC (.int 2)))) (Zaf (Zav 4 (eOp ixD (Zch (Zaa (eC (.str "all")) (Zaa (eC (.str "some")) Zae))) (eCB intD (Zaa (eOp gtD (eOp Zbx (eOp ixD (Zac 0) (eOp Zbg (eC (.int 1)) (Zac 3))) (eC (.int 3))) (eC (.int 0))) Zae))))
 Zak) Zak)
 (Zaf (Zds (eLM Zbk (Zac 2) (Zaa (Zac 4) Zae)))
 Zak)))))
 (Zaf (Zaz (eCB Zcn (Zaa (Zac 2) Zae)))
 Zak)))
noncomputable def Ze3 : FF := Za5 2 5 Zct
noncomputable def Zen : SF :=
 (Zaf (Zav 3 (Zal 2 Za4 (Zaa (Zac 0) (Zaa (eOp Zbg (Zac 1) (eC (.int 1))) Zae))))
 (Zaf (Zav 4 (Zch Zae))
 (Zaf (Zi3 (iR1 (Zaa (Zac 1) Zae)) (gNm 5) (Zaf (sIf (tOf (eOp ltD (eOp Zbx (eOp ixD (Zac 3) (eOp Zbg (eC (.int 1)) (Zac 5))) (eOp Zbg (Zac 1) (eC (.int 1)))) (eOp Zbg (Zac 2) (eOp Zbx (eOp ixD (Zac 3) (eC (.int 0))) (eC (.int 3)))))) (Zaf (Zds (eLM Zbk (Zac 4) (Zaa (eOp ixD (Zch (Zaa (eOp Zbg (Zac 5) (eC (.int 1))) (Zaa (eOp Zl3 (eOp Zl3 (eC (.int 0)) (Zac 5)) (eC (.int 1))) Zae))) (eOp Zbx (eOp Zjt (eOp ixD (Zac 3) (eOp Zbg (eC (.int 1)) (Zac 5))) (eOp Zbg (Zac 1) (eC (.int 1)))) (eC (.int 2)))) Zae)))
 Zak) Zak)
 Zak))
 (Zaf (Zaz (eCB Zcn (Zaa (Zac 4) Zae)))
 Zak))))
noncomputable def Zhw : FF := Za5 3 6 Zen
noncomputable def Zcr : SF :=
 (Zaf (Zav 2 (Zal 2 Za4 (Zaa (Zal 2 Zcl (Zaa (Zac 0) (Zaa (eC (.int 0)) Zae))) (Zaa (eC (.int 14)) Zae))))
 (Zaf (Zav 3 (eOp ixD (Zch (Zaa (eOp Zbx (eOp ixD (Zac 2) (eC (.int 0))) (eOp Zbg (Zac 1) (eC (.int 1)))) (Zaa (eOp Zl3 (Zac 1) (eOp Zbx (eOp ixD (Zac 2) (eC (.int 0))) (eC (.int 3)))) (Zaa (Zac 1) Zae)))) (eOp Zbx (eOp ixD (Zac 2) (eC (.int 1))) (eC (.int 3)))))
 (Zaf (Zav 4 (Zal 2 Ze3 (Zaa (eSl (Zac 2) (Zbh (eC (.int 2))) Zbq) (Zaa (eCB Zzj (Zaa (eC (.int 0)) (Zaa (Zac 3) Zae))) Zae))))
 (Zaf (Zav 5 (eOp ixD (Zch (Zaa (eOp Zbx (eOp ixD (Zac 2) (eC (.int 12))) (eC (.int 5))) (Zaa (eOp Zbx (eOp ixD (Zac 2) (eC (.int 12))) (eC (.int 11))) (Zaa (eOp Zbg (eC (.int 5)) (eOp Zbx (eOp ixD (Zac 2) (eC (.int 12))) (eC (.int 16)))) Zae)))) (eOp Zbx (eOp ixD (Zac 2) (eC (.int 11))) (eC (.int 3)))))
 (Zaf (Zav 6 (eLC (iR1 (Zaa (Zac 5) Zae)) [0, 4] Zr0 (Zal 3 Zhw (Zaa (Zal 2 Zcl (Zaa (Zac 1) (Zaa (eOp Zbg (eC (.int 1)) (Zac 0)) Zae))) (Zaa (eCB Zbv (Zaa (Zac 2) Zae)) (Zaa (eC (.int 1)) Zae))))))
 (Zaf (sIf (tOf (eOp gtD (eOp Zbx (eOp ixD (Zac 2) (eC (.int 13))) (eC (.int 3))) (eC (.int 0)))) (Zaf (Zav 6 (eLC (iSq (Zac 6)) [] (tOf (eOp neD (Zac 0) (Zcz Zae))) (Zac 0)))
 Zak) Zak)
 (Zaf (Zaz (Zcz (Zaa (Zac 4) (Zaa (eCB Zcn (Zaa (Zac 6) Zae)) Zae))))
 Zak)))))))
noncomputable def Ze1 : FF := Za5 2 7 Zcr
noncomputable def Zbu : SF :=
 (Zaf (Zaz (eAn (eCB Zih (Zaa (Zac 0) (Zaa (eC (.ty "int")) Zae))) (eAn (eNo (eCB Zih (Zaa (Zac 0) (Zaa (eC (.ty "bool")) Zae)))) (eCh leD ltD (eC (.int 0)) (Zac 0) (Zac 1)))))
 Zak)
noncomputable def Za0 : FF := Za5 2 2 Zbu
noncomputable def Zdj : SF :=
 (Zaf (Zav 2 (Zch Zae))
 (Zaf (Zi3 (Zss (Zaa (Zac 1) Zae)) (gTp 2 (gCn (gNm 3) (gCn (gNm 4) gNl))) (Zaf (Zav 5 (eLC (iSq (eSl (Zac 1) (Zbh (Zac 3)) Zbq)) [0] (tOf (eOp neD (eOp ixD (Zac 1) (eOp Zl3 (eCB Zxr (Zaa (Zac 0) Zae)) (eC (.int 1)))) (eC (.str "all")))) (Zac 0)))
 (Zaf (sIf (tOf (eOp neD (Zac 5) (Zch Zae))) (Zaf (Zds (eLM Zbk (Zac 2) (Zaa (Zac 4) Zae)))
 Zak) Zak)
 Zak)))
 (Zaf (Zaz (eCB Zcn (Zaa (Zac 2) Zae)))
 Zak)))
noncomputable def Zf2 : FF := Za5 2 6 Zdj
noncomputable def Zcc : SF :=
 (Zaf (sIf (Zga (tOf (eOp niD (Zac 2) (Zac 0))) (tOf (eOp niD (eUn Zl1 (Zac 2)) (Zac 1)))) (Zaf (Zaz (eC .non))
 Zak) Zak)
 (Zaf (Zav 3 eDI)
 (Zaf (Zi3 (iSq (eOp Zbg (Zac 0) (Zac 1))) (gNm 4) (Zaf (sIf (tOf (eOp neD (eCB Zxr (Zaa (Zac 4) Zae)) (Zac 2))) (Zaf (sIf (tOf (eOp iinD (eUn Zl1 (Zac 4)) (Zac 3))) (Zaf (Zaz (eC .non))
 Zak) Zak)
 (Zaf (Zzd (eC (.bl true)) (gSb (Zac 3) (Zac 4) Zrl))
 Zak)) Zak)
 Zak))
 (Zaf (Zaz (eCB Zcn (Zaa (eCB Zho (Zaa (Zac 3) Zae)) Zae)))
 Zak))))
noncomputable def Zc4 : FF := Za5 3 5 Zcc
noncomputable def Zdm : SF :=
 (Zaf (sIf (Zga (tNo (Zgq (eCB Zih (Zaa (Zac 2) (Zaa (eC (.ty "tuple")) Zae))))) (Zga (tOf (eOp eqD (eCB Zbv (Zaa (Zac 2) Zae)) (eC (.int 0)))) (tNo (Zgq (eCB Zih (Zaa (eOp ixD (Zac 2) (eC (.int 0))) (Zaa (eC (.ty "str")) Zae))))))) (Zaf (Zaz (eC .non))
 Zak) Zak)
 (Zaf (sIf (tAn (tOf (eOp eqD (eOp ixD (Zac 2) (eC (.int 0))) (eC (.str "less")))) (tAn (tOf (eOp eqD (eCB Zbv (Zaa (Zac 2) Zae)) (eC (.int 2)))) (Zgq (Zal 2 Za0 (Zaa (eOp ixD (Zac 2) (eC (.int 1))) (Zaa (eCB Zbv (Zaa (Zac 1) Zae)) Zae)))))) (Zaf (Zaz (Zal 2 Zf2 (Zaa (eOp ixD (Zac 0) (eC (.int 0))) (Zaa (eOp ixD (Zac 1) (eOp ixD (Zac 2) (eC (.int 1)))) Zae))))
 Zak) Zak)
 (Zaf (sIf (tAn (tOf (eOp eqD (eOp ixD (Zac 2) (eC (.int 0))) (eC (.str "joined")))) (tOf (eOp eqD (eCB Zbv (Zaa (Zac 2) Zae)) (eC (.int 4))))) (Zaf (Zav 3 (eLC (iR1 (Zaa (eCB Zbv (Zaa (eOp ixD (Zac 0) (eC (.int 0))) Zae)) Zae)) [0] (tOf (eOp neD (eOp ixD (eOp ixD (Zac 1) (eC (.int 0))) (Zac 0)) (eC (.str "all")))) (eOp Zbg (Zac 0) (eC (.int 1)))))
 (Zaf (sIf (tOf (eOp inD (eC (.bl false)) (eLC (iSq (eSl (Zac 2) (Zbh (eC (.int 1))) (Zbh (eC (.int 3))))) [1] Zr0 (Zal 2 Za0 (Zaa (Zac 0) (Zaa (eCB Zbv (Zaa (Zac 1) Zae)) Zae)))))) (Zaf (Zaz (eC .non))
 Zak) Zak)
 (Zaf (sIf (Zga (tNo (Zgq (Zal 2 Za0 (Zaa (eOp ixD (Zac 2) (eC (.int 3))) (Zaa (eOp Zbg (eCB Zbv (Zaa (eOp ixD (Zac 0) (eC (.int 0))) Zae)) (eC (.int 1))) Zae))))) (tOf (eOp niD (eOp ixD (Zac 2) (eC (.int 3))) (Zac 3)))) (Zaf (Zaz (eC .non))
 Zak) Zak)
 (Zaf (Zaz (Zal 3 Zc4 (Zaa (eOp ixD (Zac 1) (eOp ixD (Zac 2) (eC (.int 1)))) (Zaa (eOp ixD (Zac 1) (eOp ixD (Zac 2) (eC (.int 2)))) (Zaa (eOp ixD (Zac 2) (eC (.int 3))) Zae)))))
 Zak)))) Zak)
 (Zaf (sIf (Zga (tOf (eOp neD (eOp ixD (Zac 2) (eC (.int 0))) (eC (.str "row")))) (tOf (eOp neD (eCB Zbv (Zaa (Zac 2) Zae)) (eC (.int 2))))) (Zaf (Zaz (eC .non))
 Zak) Zak)
 (Zaf (sIf (tNo (Zgq (Zal 2 Za0 (Zaa (eOp ixD (Zac 2) (eC (.int 1))) (Zaa (eCB Zbv (Zaa (eOp ixD (Zac 0) (eC (.int 1))) Zae)) Zae))))) (Zaf (Zaz (eC .non))
 Zak) Zak)
 (Zaf (Zaz (eOp ixD (eOp ixD (Zac 0) (eC (.int 1))) (eOp ixD (Zac 2) (eC (.int 1)))))
 Zak))))))
noncomputable def Zeo : FF := Za5 3 4 Zdm
noncomputable def Zdq : SF :=
 (Zaf (Zav 2 (Zch Zae))
 (Zaf (Zi3 (iSq (Zac 1)) (gNm 3) (Zaf (Zav 4 (Zal 3 Zeo (Zaa (Zac 0) (Zaa (Zac 2) (Zaa (Zac 3) Zae)))))
 (Zaf (sIf (tOf (eOp isD (Zac 4) (eC .non))) (Zaf (Zaz (Zac 2))
 Zak) Zak)
 (Zaf (Zds (eLM Zbk (Zac 2) (Zaa (Zac 4) Zae)))
 Zak))))
 (Zaf (Zaz (Zac 2))
 Zak)))
noncomputable def Zdi : FF := Za5 2 5 Zdq
noncomputable def Za8 : SF :=
 (Zaf (sIf (tAn (tOf (eOp eqD (eOp Zbx (eOp ixD (Zac 2) (eC (.int 0))) (eC (.int 4))) (eC (.int 0)))) (tOf (eOp neD (Zac 1) (Zch Zae)))) (Zaf (Zaz (Zcz (Zaa (eC (.str "less")) (Zaa (eOp Zbx (eOp ixD (Zac 2) (eC (.int 1))) (eCB Zbv (Zaa (Zac 1) Zae))) Zae))))
 Zak) Zak)
 (Zaf (sIf (tAn (tOf (eOp ltD (eOp Zbx (eOp ixD (Zac 2) (eC (.int 0))) (eC (.int 4))) (eC (.int 3)))) (tOf (eOp neD (Zac 1) (Zch Zae)))) (Zaf (Zav 3 (eLC (iR1 (Zaa (eCB Zbv (Zaa (eOp ixD (Zac 0) (eC (.int 0))) Zae)) Zae)) [0] (tOf (eOp neD (eOp ixD (eOp ixD (Zac 1) (eC (.int 0))) (Zac 0)) (eC (.str "all")))) (eOp Zbg (Zac 0) (eC (.int 1)))))
 (Zaf (Zi3 (iR1 (Zaa (eCB Zbv (Zaa (Zac 1) Zae)) Zae)) (gNm 4) (Zaf (Zav 5 (eOp Zbx (eOp Zbg (eOp ixD (Zac 2) (eC (.int 1))) (Zac 4)) (eCB Zbv (Zaa (Zac 1) Zae))))
 (Zaf (Zav 6 (eOp Zbx (eOp Zbg (eOp ixD (Zac 2) (eC (.int 2))) (eOp Zkk (eC (.int 3)) (Zac 4))) (eCB Zbv (Zaa (Zac 1) Zae))))
 (Zaf (Zi3 (iSq (Zac 3)) (gNm 7) (Zaf (sIf (tOf (eOp Zz3 (Zal 3 Zc4 (Zaa (eOp ixD (Zac 1) (Zac 5)) (Zaa (eOp ixD (Zac 1) (Zac 6)) (Zaa (Zac 7) Zae)))) (eC .non))) (Zaf (Zaz (Zcz (Zaa (eC (.str "joined")) (Zaa (Zac 5) (Zaa (Zac 6) (Zaa (Zac 7) Zae))))))
 Zak) Zak)
 Zak))
 Zak))))
 Zak)) Zak)
 (Zaf (sIf (tOf (eOp eqD (eOp ixD (Zac 0) (eC (.int 1))) (Zcz Zae))) (Zaf (Zaz (eC .non))
 Zak) Zak)
 (Zaf (Zaz (Zcz (Zaa (eC (.str "row")) (Zaa (eOp Zbx (eOp ixD (Zac 2) (eC (.int 3))) (eCB Zbv (Zaa (eOp ixD (Zac 0) (eC (.int 1))) Zae))) Zae))))
 Zak))))
noncomputable def Zci : FF := Za5 3 8 Za8
noncomputable def Za1 : SF :=
 (Zaf (Zav 4 (Zch Zae))
 (Zaf (Zav 5 (Zch Zae))
 (Zaf (Zi3 (iR1 (Zaa (Zac 3) Zae)) (gNm 6) (Zaf (Zav 7 (eSl (Zal 2 Za4 (Zaa (Zal 2 Zcl (Zaa (Zac 1) (Zaa (eOp Zbg (Zac 2) (Zac 6)) Zae))) (Zaa (eC (.int 24)) Zae))) (Zbh (eC (.int 14))) Zbq))
 (Zaf (Zav 8 (Zal 3 Zci (Zaa (Zac 0) (Zaa (Zac 5) (Zaa (Zac 7) Zae)))))
 (Zaf (sIf (tOf (eOp Zz3 (Zac 8) (eC .non))) (Zaf (Zds (eLM Zbk (Zac 4) (Zaa (Zac 8) Zae)))
 (Zaf (Zds (eLM Zbk (Zac 5) (Zaa (Zal 3 Zeo (Zaa (Zac 0) (Zaa (Zac 5) (Zaa (Zac 8) Zae)))) Zae)))
 Zak)) Zak)
 Zak))))
 (Zaf (Zaz (Zac 4))
 Zak))))
noncomputable def Zb7 : FF := Za5 4 9 Za1
noncomputable def Zbi : SF :=
 (Zaf (Zzd (Zac 0) (gTp 2 (gCn (gNm 3) (gCn (gNm 4) gNl))))
 (Zaf (sIf (Zga (tOf (eOp gtD (eOp Zbx (Zac 1) (eC (.int 6))) (eC (.int 0)))) (tOf (eOp gtD (eCB Zbv (Zaa (Zac 3) Zae)) (eC (.int 5))))) (Zaf (Zaz (Zac 0))
 Zak) Zak)
 (Zaf (Zav 2 (eCB Zcn (Zaa (eLC (iSq (eSl (Zac 4) Zbq (Zbh (eOp Zbg (eC (.int 1)) (eOp Zbx (eOp Zjt (Zac 1) (eC (.int 6))) (eC (.int 20))))))) [] Zr0 (eCB Zcn (Zaa (eLC (iSq (Zac 0)) [] Zr0 (eUn Zl1 (Zac 0))) Zae))) Zae)))
 (Zaf (Zaz (Zcz (Zaa (Zac 3) (Zaa (eOp Zkk (eOp Zbg (Zac 4) (Zac 2)) (eOp Zbg (eC (.int 1)) (eOp Zbx (eOp Zjt (Zac 1) (eC (.int 120))) (eC (.int 3))))) Zae))))
 Zak))))
noncomputable def Zcu : FF := Za5 2 5 Zbi
noncomputable def Za2 : SF :=
 (Zaf (Zav 4 (eOp ixD (Zch (Zaa (eCB Zbv (Zaa (Zac 1) Zae)) (Zaa (eUn Zl1 (eC (.int 1))) (Zaa (eC (.bl true)) (Zaa (eC .non) (Zaa (eC (.str "0")) (Zaa (eOp Zu5 (eC (.int 10)) (eC (.int 20))) (Zaa (eOp Zbg (eCB Zbv (Zaa (Zac 1) Zae)) (eC (.int 1))) Zae)))))))) (eOp Zbx (eOp ixD (Zac 3) (eC (.int 1))) (eC (.int 7)))))
 (Zaf (Zav 5 (eCB Zbv (Zaa (eOp ixD (Zac 0) (eC (.int 0))) Zae)))
 (Zaf (Zav 6 (eCB Zzj (Zaa (eC (.int 1)) (Zaa (eCB Zbv (Zaa (Zac 1) Zae)) Zae))))
 (Zaf (sIf (tOf (eOp eqD (eOp Zbx (eOp ixD (Zac 3) (eC (.int 0))) (eC (.int 6))) (eC (.int 0)))) (Zaf (Zav 8 (Zch (Zaa (eC .non) (Zaa (eCB Zhn (Zaa (Zac 2) Zae)) (Zaa (eOp Zbg (Zac 2) (Zcz (Zaa (eC (.int 0)) Zae))) (Zaa (eSl (Zac 2) Zbq (Zbh (eUn Zl1 (eC (.int 1))))) (Zaa (Zcz Zae) (Zaa (Zcz (Zaa (eC (.str "least")) (Zaa (eC (.int 0)) Zae))) (Zaa (eC (.int 7)) (Zaa (Zcz (Zaa (Zac 2) Zae)) (Zaa (Zcz (Zaa (eC (.str "row")) Zae)) (Zaa (Zcz (Zaa (eC .non) (Zaa (eC (.int 0)) Zae))) Zae))))))))))))
 (Zaf (Zaz (eOp ixD (eOp Zbg (Zac 8) (Zch (Zaa (eOp Zbg (Zcz (Zaa (Zch (Zaa (eOp ixD (Zac 2) (eC (.int 0))) Zae)) Zae)) (eSl (Zac 2) (Zbh (eC (.int 1))) Zbq)) Zae))) (eOp Zbx (eOp ixD (Zac 3) (eC (.int 2))) (eC (.int 11)))))
 Zak)) Zak)
 (Zaf (sIf (tOf (eOp eqD (eOp Zbx (eOp ixD (Zac 3) (eC (.int 0))) (eC (.int 6))) (eC (.int 1)))) (Zaf (Zaz (Zcz (Zaa (eC (.str "less")) (Zaa (Zac 4) Zae))))
 Zak) Zak)
 (Zaf (sIf (tOf (eOp eqD (eOp Zbx (eOp ixD (Zac 3) (eC (.int 0))) (eC (.int 6))) (eC (.int 2)))) (Zaf (Zaz (eOp ixD (Zch (Zaa (Zcz (Zaa (eC (.str "joined")) (Zaa (Zac 4) (Zaa (eC (.int 0)) (Zaa (eC (.int 1)) Zae))))) (Zaa (Zcz (Zaa (eC (.str "joined")) (Zaa (eC (.int 0)) (Zaa (Zac 4) (Zaa (eC (.int 1)) Zae))))) (Zaa (Zcz (Zaa (eC (.str "joined")) (Zaa (eC (.int 0)) (Zaa (eC (.int 0)) (Zaa (Zac 4) Zae))))) Zae)))) (eOp Zbx (eOp ixD (Zac 3) (eC (.int 2))) (eC (.int 3)))))
 Zak) Zak)
 (Zaf (sIf (tOf (eOp eqD (eOp Zbx (eOp ixD (Zac 3) (eC (.int 0))) (eC (.int 6))) (eC (.int 3)))) (Zaf (Zav 9 (eOp ixD (Zch (Zaa (eC (.int 0)) (Zaa (eOp Zbg (Zac 5) (eC (.int 1))) (Zaa (eUn Zl1 (eC (.int 1))) (Zaa (eOp Zbg (eC (.int 1)) (eOp Zbx (eOp ixD (Zac 3) (eC (.int 3))) (eOp Zbg (Zac 5) (eC (.int 1))))) Zae))))) (eOp Zbx (eOp Zjt (eOp ixD (Zac 3) (eC (.int 3))) (eC (.int 9))) (eC (.int 4)))))
 (Zaf (Zaz (Zcz (Zaa (eC (.str "joined")) (Zaa (eOp Zbx (eOp ixD (Zac 3) (eC (.int 4))) (Zac 6)) (Zaa (eOp Zbx (eOp ixD (Zac 3) (eC (.int 2))) (Zac 6)) (Zaa (Zac 9) Zae))))))
 Zak)) Zak)
 (Zaf (sIf (tOf (eOp eqD (eOp Zbx (eOp ixD (Zac 3) (eC (.int 0))) (eC (.int 6))) (eC (.int 4)))) (Zaf (Zav 8 (Zch (Zaa (Zcz (Zaa (eC (.str "row")) (Zaa (eCB Zbv (Zaa (eOp ixD (Zac 0) (eC (.int 1))) Zae)) Zae))) (Zaa (Zcz (Zaa (eC (.str "row")) (Zaa (eUn Zl1 (eC (.int 1))) Zae))) (Zaa (Zcz (Zaa (eC (.str "row")) (Zaa (eC (.bl true)) Zae))) (Zaa (Zcz (Zaa (eC (.str "row")) (Zaa (eC (.str "0")) Zae))) (Zaa (Zcz (Zaa (eC (.str "term")) (Zaa (Zcz Zae) Zae))) (Zaa (Zcz (Zaa (eC (.str "row")) (Zaa (eC .non) Zae))) Zae))))))))
 (Zaf (Zaz (eOp ixD (Zac 8) (eOp Zbx (eOp ixD (Zac 3) (eC (.int 2))) (eC (.int 6)))))
 Zak)) Zak)
 (Zaf (Zav 7 (eOp Zbg (eOp ixD (Zac 0) (eC (.int 1))) (Zcz (Zaa (Zcz Zae) Zae))))
 (Zaf (Zav 8 (Zch (Zaa (eOp ixD (Zac 7) (eOp Zbx (eOp ixD (Zac 3) (eC (.int 2))) (eCB Zbv (Zaa (Zac 7) Zae)))) (Zaa (Zcz (Zaa (eOp Zbx (eOp ixD (Zac 3) (eC (.int 2))) (eCB Zbv (Zaa (Zac 7) Zae))) Zae)) (Zaa (Zch (Zaa (eC (.int 0)) Zae)) (Zaa (eOp Zu5 (eC (.int 10)) (eC (.int 20))) (Zaa (eOp Zl3 (eC (.int 0)) (eCB Zbv (Zaa (eOp ixD (Zac 0) (eC (.int 1))) Zae))) Zae)))))))
 (Zaf (Zaz (Zcz (Zaa (eC (.str "row")) (Zaa (eOp ixD (Zac 8) (eOp Zbx (eOp ixD (Zac 3) (eC (.int 3))) (eC (.int 5)))) Zae))))
 Zak)))))))))))
noncomputable def Zas : FF := Za5 4 10 Za2
noncomputable def Zb0 : SF :=
 (Zaf (Zav 2 (eC .non))
 (Zaf (Zmj 3 (Zaf (Zds (Zal 2 Zb9 (Zaa (Zac 0) (Zaa (Zac 1) Zae))))
 Zak) (Zex 2 Zfn (Zaa (Zac 0) (Zaa (Zac 1) Zae))) (fun i => (Zaf (Zav 2 (eC (.int i))) Zak)))
 (Zaf (Zaz (Zac 2))
 Zak)))
noncomputable def Zd1 : FF := Za5 2 4 Zb0
noncomputable def Zcp : SF :=
 (Zaf (Zav 2 (Zch Zae))
 (Zaf (Zmj 3 (Zaf (Zds (Zal 2 Zb9 (Zaa (Zac 0) (Zaa (Zac 1) Zae))))
 Zak) (Zex 2 Zfn (Zaa (Zac 0) (Zaa (Zac 1) Zae))) (fun i => (Zaf (Zav 2 (Zch (Zaa (eC (.bl true)) (Zaa (eC (.bl true)) Zae)))) (Zaf (Zav 2 (eOp Zbg (Zac 2) (Zch (Zaa (eC (.bl false)) (Zaa (eC (.bl false)) Zae))))) Zak))))
 (Zaf (Zaz (eOp eqD (Zac 2) (Zch (Zaa (eC (.bl true)) (Zaa (eC (.bl true)) (Zaa (eC (.bl false)) (Zaa (eC (.bl false)) Zae)))))))
 Zak)))
noncomputable def Ze7 : FF := Za5 2 4 Zcp
noncomputable def Zce : SF :=
 (Zaf (sIf (Zga (tNo (Zgq (eCB Zih (Zaa (Zac 0) (Zaa (eC (.ty "list")) Zae))))) (tOf (eOp neD (Zac 0) (Zac 1)))) (Zaf (Zaz (eC (.bl false)))
 Zak) Zak)
 (Zaf (Zi3 (iSq (Zac 0)) (gNm 2) (Zaf (sIf (Zga (tNo (Zgq (eCB Zih (Zaa (Zac 2) (Zaa (eC (.ty "tuple")) Zae))))) (tOf (eOp inD (eC (.bl true)) (eLC (iSq (Zac 2)) [] Zr0 (eCB Zih (Zaa (Zac 0) (Zaa (eC (.ty "bool")) Zae))))))) (Zaf (Zaz (eC (.bl false)))
 Zak) Zak)
 Zak))
 (Zaf (Zaz (eC (.bl true)))
 Zak)))
noncomputable def Zc5 : FF := Za5 2 3 Zce
noncomputable def Za3 : SF :=
 (Zaf (Zav 2 (Zal 2 Zdi (Zaa (Zac 0) (Zaa (Zac 1) Zae))))
 (Zaf (Zav 3 (eCB Zi7 (Zaa (Zac 1) Zae)))
 (Zaf (Zav 4 (Zal 2 Zdb (Zaa (Zac 0) (Zaa (eCB Zhn (Zaa (Zac 1) Zae)) Zae))))
 (Zaf (Zav 5 (eAn (eOp eqD (eSl (Zac 2) (Zbh (eUn Zl1 (eC (.int 1)))) Zbq) (Zch (Zaa (Zcz Zae) Zae))) (eOp eqD (eCB Zbv (Zaa (Zac 2) Zae)) (eCB Zbv (Zaa (Zac 1) Zae)))))
 (Zaf (sIf (Zga (tOf (eOp neD (eCB Zi7 (Zaa (Zac 1) Zae)) (Zac 3))) (Zga (tNo (Zgq (eCB Zih (Zaa (Zac 4) (Zaa (eC (.ty "bool")) Zae))))) (tOf (eOp neD (Zac 4) (Zac 5))))) (Zaf (Zaz (eC (.bl false)))
 Zak) Zak)
 (Zaf (Zav 6 (eCB Zhn (Zaa (Zac 1) Zae)))
 (Zaf (sIf (tOf (eOp eqD (eCB Zbv (Zaa (Zac 2) Zae)) (eCB Zbv (Zaa (Zac 1) Zae)))) (Zaf (Zaz (eAn (Zal 2 Zc5 (Zaa (Zal 2 Zb9 (Zaa (Zac 0) (Zaa (Zac 6) Zae))) (Zaa (Zac 2) Zae))) (eOp eqD (eCB Zi7 (Zaa (Zac 6) Zae)) (Zac 3))))
 Zak) Zak)
 (Zaf (Zav 7 (Zal 2 Zd1 (Zaa (Zac 0) (Zaa (Zac 6) Zae))))
 (Zaf (sIf (Zga (tNo (Zgq (Zal 2 Za0 (Zaa (Zac 7) (Zaa (eCB Zbv (Zaa (Zac 1) Zae)) Zae))))) (tOf (eOp neD (Zac 7) (eCB Zbv (Zaa (Zac 2) Zae))))) (Zaf (Zaz (eC (.bl false)))
 Zak) Zak)
 (Zaf (sIf (Zga (tOf (eOp neD (eCB Zi7 (Zaa (Zac 6) Zae)) (Zac 3))) (tOf (eOp neD (eCB Zi7 (Zaa (Zac 1) Zae)) (Zac 3)))) (Zaf (Zaz (eC (.bl false)))
 Zak) Zak)
 (Zaf (Zaz (Zal 2 Ze7 (Zaa (Zac 0) (Zaa (eCB Zhn (Zaa (Zac 1) Zae)) Zae))))
 Zak)))))))))))
noncomputable def Zbl : FF := Za5 2 8 Za3
noncomputable def Zba : SF :=
 (Zaf (Zav 2 (Zal 2 Zdi (Zaa (Zac 0) (Zaa (Zac 1) Zae))))
 (Zaf (Zav 3 (eCB Zhn (Zaa (Zac 1) Zae)))
 (Zaf (Zi3 (iR1 (Zaa (eC (.int 2)) Zae)) (gNm 4) (Zaf (Zav 5 (Zal 2 Zb9 (Zaa (Zac 0) (Zaa (Zac 3) Zae))))
 (Zaf (sIf (Zga (tNo (Zgq (Zal 2 Zc5 (Zaa (Zac 5) (Zaa (Zac 2) Zae))))) (tOf (eOp neD (Zac 3) (Zac 1)))) (Zaf (Zaz (eC (.bl false)))
 Zak) Zak)
 (Zaf (Zds (eLM Zbk (Zac 5) (Zaa (Zcz Zae) Zae)))
 Zak))))
 (Zaf (Zaz (eC (.bl true)))
 Zak))))
noncomputable def Zcj : FF := Za5 2 6 Zba
noncomputable def Zrz : SF :=
 (Zaf (Zav 1 (eSl (Zal 2 Za4 (Zaa (Zal 2 Zcl (Zaa (Zac 0) (Zaa (eC (.int 1)) Zae))) (Zaa (eC (.int 48)) Zae))) (Zbh (eC (.int 28))) Zbq))
 (Zaf (Zav 2 (Zal 2 Zcu (Zaa (Zal 2 Ze1 (Zaa (Zac 0) (Zaa (eC (.int 8)) Zae))) (Zaa (eOp ixD (Zac 1) (eC (.int 12))) Zae))))
 (Zaf (Zav 3 (Zal 4 Zb7 (Zaa (Zac 2) (Zaa (Zac 0) (Zaa (eC (.int 2)) (Zaa (eOp Zbg (eC (.int 2)) (eOp Zbx (eOp ixD (Zac 1) (eC (.int 0))) (eC (.int 13)))) Zae))))))
 (Zaf (sIf (tAn (tOf (eOp eqD (eOp Zbx (eOp ixD (Zac 1) (eC (.int 13))) (eC (.int 6))) (eC (.int 0)))) (tOf (eOp neD (Zac 3) (Zch Zae)))) (Zaf (Zav 3 (eOp Zbg (Zac 3) (eLC (iR1 (Zaa (eOp Zbx (eOp ixD (Zac 1) (eC (.int 14))) (eC (.int 684))) Zae)) [3] Zr0 (Zcz (Zaa (eC (.str "less")) (Zaa (eOp Zl3 (eOp Zbg (eCB Zbv (Zaa (Zac 1) Zae)) (Zac 0)) (eC (.int 1))) Zae))))))
 Zak) Zak)
 (Zaf (sIf (tNo (Zgq (Zal 2 Zcj (Zaa (Zac 2) (Zaa (Zac 3) Zae))))) (Zaf (Zaz (eC (.bl false)))
 Zak) Zak)
 (Zaf (Zav 4 (Zal 2 Zdi (Zaa (Zac 2) (Zaa (Zac 3) Zae))))
 (Zaf (Zi3 (iR1 (Zaa (eC (.int 3)) Zae)) (gNm 5) (Zaf (Zav 7 (eSl (Zal 2 Za4 (Zaa (Zal 2 Zcl (Zaa (Zac 0) (Zaa (eOp Zbg (eC (.int 3)) (Zac 5)) Zae))) (Zaa (eC (.int 60)) Zae))) (Zbh (eC (.int 24))) Zbq))
 (Zaf (Zav 8 (eOp Zbx (eOp ixD (Zac 7) (eC (.int 0))) (eOp Zbg (eCB Zbv (Zaa (Zac 3) Zae)) (eC (.int 1)))))
 (Zaf (Zav 9 (Zal 4 Zas (Zaa (Zac 2) (Zaa (eSl (Zac 4) Zbq (Zbh (Zac 8))) (Zaa (eOp ixD (eOp Zbg (Zac 3) (Zch (Zaa (Zcz (Zaa (eC (.str "less")) (Zaa (eC (.int 0)) Zae))) Zae))) (Zac 8)) (Zaa (eSl (Zac 7) (Zbh (eC (.int 1))) Zbq) Zae))))))
 (Zaf (Zav 10 (eOp Zbg (eOp Zbg (eSl (Zac 3) Zbq (Zbh (Zac 8))) (Zch (Zaa (Zac 9) Zae))) (eSl (Zac 3) (Zbh (Zac 8)) Zbq)))
 (Zaf (sIf (tOf (eOp eqD (eOp Zbx (eOp ixD (Zac 7) (eC (.int 17))) (eC (.int 2))) (eC (.int 0)))) (Zaf (Zav 11 (eOp Zbg (eOp Zbg (Zac 8) (eC (.int 1))) (eOp Zbx (eOp ixD (Zac 7) (eC (.int 18))) (eOp Zl3 (eCB Zbv (Zaa (Zac 10) Zae)) (Zac 8)))))
 (Zaf (Zav 9 (Zal 4 Zas (Zaa (Zac 2) (Zaa (eSl (Zac 4) Zbq (Zbh (Zac 8))) (Zaa (eOp ixD (eOp Zbg (Zac 3) (Zch (Zaa (Zcz (Zaa (eC (.str "less")) (Zaa (eC (.int 0)) Zae))) Zae))) (Zac 8)) (Zaa (eSl (Zac 7) (Zbh (eC (.int 19))) Zbq) Zae))))))
 (Zaf (Zav 10 (eOp Zbg (eOp Zbg (eSl (Zac 10) Zbq (Zbh (Zac 11))) (Zch (Zaa (Zac 9) Zae))) (eSl (Zac 10) (Zbh (Zac 11)) Zbq)))
 Zak))) Zak)
 (Zaf (sIf (tNo (Zgq (Zal 2 Zbl (Zaa (Zac 2) (Zaa (Zac 10) Zae))))) (Zaf (Zaz (eC (.bl false)))
 Zak) Zak)
 Zak)))))))
 (Zaf (Zav 6 (Zch (Zaa (Zso "NotWon" (eC (.str "a"))) (Zaa (Zso "TooMany" (eC (.str "b"))) (Zaa (Zso "NoPick" (eC (.str "c"))) (Zaa (Zso "NoBack" (eC (.str "d"))) (Zaa (Zso "NoRow" (eC (.str ""))) (Zaa (Zso "NoLine" (eC (.str "e"))) (Zaa (Zzk "NoText" (eC (.int 3))) (Zaa (Zzk "NoStep" (eC (.int 4))) Zae))))))))))
 (Zaf (sIf (tOf (eOp inD (eC (.bl false)) (eLC (iSq (Zac 6)) [] Zr0 (Zy1 [("NotWon", true), ("TooMany", true), ("NoPick", true), ("NoBack", true), ("NoRow", true), ("NoLine", true), ("NoText", true), ("NoStep", true)] (Zac 0))))) (Zaf (Zaz (eC (.bl false)))
 Zak) Zak)
 (Zaf (Zaz (eAn (eOp eqD (Zal 2 Zb9 (Zaa (Zac 2) (Zaa (Zch Zae) Zae))) (Zch Zae)) (eAn (eOp eqD (Zyf (eC (.int 4))) (eC (.int 4))) (eOp eqD (Zyf (eC (.int 3))) (eC (.int 3))))))
 Zak))))))))))
noncomputable def Zok : FF := Za5 1 12 Zrz
end K08
set_option maxHeartbeats 4000000
namespace K08
open PySem L2 DL LH WP
noncomputable def kS (d : D) : Bool := match d with
 | .str x => x == "some"
 | _ => false
noncomputable def Zmk (b : Bool) : D := if b then .str "some" else .str "all"
theorem Zpn {d : D} (h : Zbw d) : d = Zmk (kS d) := by
 rcases h with rfl | rfl <;> rfl
theorem Zxd (a b : Bool) (H : HD) : eqD (Zmk a) (Zmk b) H = some (.bl (a == b), H) := by
 cases a <;> cases b <;> rfl
theorem at0 (a b : D) : atI [a, b] 0 = some a := Zdw (j := 0) rfl
theorem at1 (a b : D) : atI [a, b] 1 = some b := Zdw (j := 1) rfl
structure Cl (ks : List D) (rss : List (List Int)) : Prop where
 hk : ∀ d ∈ ks, Zbw d
 hu : ∀ ls ∈ rss, Up ks.length 0 ls
 hl : rss.length ≤ 1000
 h8 : ks.length ≤ 8
noncomputable def Zaj (ks : List D) (rss : List (List Int)) : D := .tup [.tup ks, .tup (rss.map Za7)]
variable {H : HD} {Q : D -> HD -> Prop}
theorem w_cl0 {ks : List D} {rss : List (List Int)} (q : Q (.tup ks) H) : wE (ixD (Zaj ks rss) (.int 0) H) Q := ⟨_, _, ixT (at0 _ _), q⟩
theorem w_cl1 {ks : List D} {rss : List (List Int)} (q : Q (.tup (rss.map Za7)) H) : wE (ixD (Zaj ks rss) (.int 1) H) Q := ⟨_, _, ixT (at1 _ _), q⟩
theorem Zxh {ks : List D} (hk : ∀ d ∈ ks, Zbw d) {i : Nat} (h : i < ks.length) : ks[i]? = some (Zmk (kS (ks.getD i .non))) := by
 have e0 : ks.getD i .non = ks[i] := by simp [List.getD, h]
 have := Zpn (hk ks[i] (List.getElem_mem h))
 rw [List.getElem?_eq_getElem h, e0]
 exact congrArg some this
local macro_rules | `(tactic| fail $s:str) => do
 if s.getString == "g" then `(tactic| (repeat fail "go")) else if s.getString == "i" then `(tactic| ((repeat fail "go"); (refine WP.w_if ?_; (repeat fail "go")))) else Lean.Macro.throwUnsupported
local macro_rules | `(tactic| fail $s:str) => do
 if s.getString == "lk" then `(tactic| first | assumption | with_reducible exact WP.last | (with_reducible refine WP.appL ?_; fail "lk"))
 else if s.getString == "go" then do
  let a0 ← `(by with_unfolding_all rfl)
  let a1 ← `(?_)
  let a2 ← `(by first | (simp; done) | (simp; omega) | omega)
  let a3 ← `(by decide)
  let a4 ← `(by with_unfolding_all first | exact (rfl : _ = true) | exact (rfl : _ = false))
  let a5 ← `(by fail "lk")
  let a6 ← `(by with_unfolding_all exact rfl)
  let t ← ([`WP.w_var].map (·, [a0, a1]) ++ [`WP.w_c, `WP.w_seq, `WP.w_kn, `WP.w_set, `WP.w_op, `WP.w_acons, `WP.w_anil, `WP.w_call, `WP.w_cb, `WP.w_tof, `WP.w_bl, `WP.w_bt, `WP.w_bf, `WP.w_bnt, `WP.w_bnf, `WP.w_ret, `WP.w_fr, `WP.w_kr, `WP.w_snil, `WP.w_expr, `WP.w_for, `WP.w_or, `WP.w_an, `WP.w_no, `WP.w_ttru, `WP.w_eif, `WP.w_eno, `WP.w_ean, `WP.w_eorr, `WP.w_un, `WP.w_ch, `WP.w_int, `WP.w_tup, `WP.w_lst, `WP.w_lm, `WP.w_tm, `WP.w_dm, `WP.w_dn, `WP.w_on, `WP.w_os, `WP.w_sl, `WP.w_rv, `WP.w_lc, `WP.w_asg, `WP.w_gnm, `WP.w_gsb, `WP.w_gcn, `WP.w_gnl].map (·, [a1]) ++ [`WP.w_n, `WP.w_gtp, `WP.w_ixT, `WP.w_isN, `WP.w_isnN, `WP.w_isBl, `WP.w_isnBl].map (·, [a0, a1]) ++ [`WP.w_sz, `WP.w_addT].map (·, [a2, a1]) ++ [`WP.w_mod].map (·, [a3, a1]) ++ [`WP.w_fdiv, `WP.w_mulL, `WP.w_mulR].map (·, [a3, a3, a1]) ++ [`WP.w_eqI', `WP.w_neI', `WP.w_eqS', `WP.w_neS'].map (·, [a4, a1]) ++ [`WP.w_lenR, `WP.w_tupR, `WP.w_itR].map (·, [a5, a1]) ++ [`WP.w_ixR].map (·, [a5, a0, a1]) ++ [`WP.w_isi'].map (·, [a0, a0, a4, a1]) ++ [`WP.w_addI, `WP.w_subI, `WP.w_lt, `WP.w_le, `WP.w_gt, `WP.w_ge, `WP.w_slhi, `WP.w_sllo, `WP.w_sllo1, `WP.w_neg, `WP.w_eqI, `WP.w_neI, `WP.w_eqS, `WP.w_neS, `WP.w_lenT, `WP.w_lenF, `WP.w_abs, `WP.w_intI, `WP.w_intB, `WP.w_max, `WP.w_min, `WP.w_truB, `WP.w_truT, `WP.w_truN, `WP.w_isq, `WP.w_itT, `WP.w_itF, `WP.w_ir1, `WP.w_ir2, `WP.w_ir3, `WP.w_idic, `WP.w_enum, `WP.w_enum1, `WP.w_zip, `WP.w_yes, `WP.w_retn, `WP.w_fn, `WP.w_agn, `WP.w_agr, `WP.w_kb, `WP.w_kc, `WP.w_agb, `WP.w_agc, `WP.w_brk, `WP.w_cnt].map (·, [a1]) ++ [`WP.w_bT, `WP.w_bF].map (·, [a6, a1]) : List (Lean.Name × List Lean.Term)).foldrM (fun p (r : Lean.TSyntax `tactic) => `(tactic| first | with_reducible refine $(Lean.Syntax.mkApp (Lean.mkIdent p.1) p.2.toArray) | $r:tactic)) (← `(tactic| fail "no"))
  return t
 else Lean.Macro.throwUnsupported
local macro_rules | `(tactic| fail $s:str) => do
 if s.getString == "go" then `(tactic| first | with_reducible refine w_lenP ?_ | with_reducible refine w_addP (by omega) ?_ | with_reducible refine w_cl0 ?_ | with_reducible refine w_cl1 ?_)
 else Lean.Macro.throwUnsupported
variable {H : HD} {Q : D -> HD -> Prop}
theorem Zyz {t : TF} {f g : SF} {σ : SD} {R : FD -> SD -> HD -> Prop} (B : Bool) (h : wT (t σ H) fun b H' => H' = H ∧ b = B) (ht : B = true -> wS (f σ H) R) (hf : B = false -> wS (g σ H) R) : wS (sIf t f g σ H) R := by
 obtain ⟨b, H1, e, rfl, rfl⟩ := h
 exact w_if ⟨_, _, e, ht, hf⟩
theorem w_mix {cell k : Int} (h0 : 0 ≤ k) (h1 : k ≤ 100) (q : ∀ r H', 0 ≤ r -> r < 2147483648 -> Fm [] H H' -> Q (.int r) H') : wE (Zhl [.int cell, .int k] H) Q := by
 refine Zbc rfl ?_
 show wS (Zei [some (.int cell), some (.int k), none, none] H) _
 unfold Zei
 obtain ⟨P, hP, hP2, eP⟩ : ∃ P : Int, 0 < P ∧ P < 2147483648 ∧ atI [D.int 2147483647, .int 2147483629, .int 2147483587, .int 2147483579, .int 2147483563, .int 2147483549, .int 2147483543] (k % 7) = some (.int P) := by
  rcases (show k % 7 = 0 ∨ k % 7 = 1 ∨ k % 7 = 2 ∨ k % 7 = 3 ∨ k % 7 = 4 ∨ k % 7 = 5 ∨ k % 7 = 6 by omega) with h | h | h | h | h | h | h <;> rw [h]
  ·exact ⟨2147483647, by omega, by omega, rfl⟩
  ·exact ⟨2147483629, by omega, by omega, rfl⟩
  ·exact ⟨2147483587, by omega, by omega, rfl⟩
  ·exact ⟨2147483579, by omega, by omega, rfl⟩
  ·exact ⟨2147483563, by omega, by omega, rfl⟩
  ·exact ⟨2147483549, by omega, by omega, rfl⟩
  ·exact ⟨2147483543, by omega, by omega, rfl⟩
 fail "g"
 refine w_ixR last eP ?_
 fail "g"
 have c0 := Int.emod_nonneg cell (show (998244353 : Int) ≠ 0 by decide)
 have c1 := Int.emod_lt_of_pos cell (show (0 : Int) < 998244353 by decide)
 generalize cell % 998244353 = c at *
 refine w_mulL (by omega) (by omega) ?_
 fail "g"
 refine w_mulL (by omega) (by omega) ?_
 fail "g"
 refine w_mod hP ?_
 have a0 := Int.emod_nonneg ((c + 104729 * (k + 1)) * (k * k + 7 * k + 13)) (show P ≠ 0 by omega)
 have a1 := Int.emod_lt_of_pos ((c + 104729 * (k + 1)) * (k * k + 7 * k + 13)) hP
 generalize (c + 104729 * (k + 1)) * (k * k + 7 * k + 13) % P = a at *
 fail "g"
 refine Zox (by decide) (by decide) (by omega) ?_
 fail "g"
 have b0 := Int.emod_nonneg (a ^ (5 : Int).toNat) (show (1000000007 : Int) ≠ 0 by decide)
 have b1 := Int.emod_lt_of_pos (a ^ (5 : Int).toNat) (show (0 : Int) < 1000000007 by decide)
 generalize a ^ (5 : Int).toNat % 1000000007 = b at *
 refine w_mod hP ?_
 have d0 := Int.emod_nonneg (b * 48271 + 31 * k + 5) (show P ≠ 0 by omega)
 have d1 := Int.emod_lt_of_pos (b * 48271 + 31 * k + 5) hP
 generalize (b * 48271 + 31 * k + 5) % P = d at *
 fail "g"
 refine Zox (by decide) (by decide) (by omega) ?_
 fail "g"
 have e0 := Int.emod_nonneg (d ^ (3 : Int).toNat) (show (998244353 : Int) ≠ 0 by decide)
 have e1 := Int.emod_lt_of_pos (d ^ (3 : Int).toNat) (show (0 : Int) < 998244353 by decide)
 generalize d ^ (3 : Int).toNat % 998244353 = e at *
 exact q _ _ (by omega) (by omega) (Fm.app _)
noncomputable def Zr3 (ds : List Int) : Prop := ∀ d ∈ ds, 0 ≤ d ∧ d < 2147483648
theorem Zfk {cell : Int} {many : Nat} (h1 : many ≤ 100) (q : ∀ (ds : List Int) p H', ds.length = many -> Zr3 ds -> H'[p]? = some (.lst (ds.map .int)) -> H.length ≤ p -> Fm [] H H' -> Q (.ref p) H') : wE (Za4 [.int cell, .int many] H) Q := by
 refine Zbc rfl ?_
 show wS (Zcd [some (.int cell), some (.int many), none, none, none, none] H) _
 unfold Zcd
 fail "g"
 refine Zox (by decide) (by decide) (by decide) ?_
 fail "g"
 generalize decide ((10 : Int) ^ (18 : Int).toNat ≤ Zbn cell) = wide
 refine ⟨_, rfl, ⟨by omega, by omega⟩, ?_⟩
 rw [show ((many : Int)).toNat = many by omega]
 refine Zd7 (fun d t σ H' => d ++ t = Zar 0 many ∧ ∃ (ds : List Int) (L : Int) (z5 : Option D), ds.length = d.length ∧ Zr3 ds ∧ H'[H.length]? = some (.lst (ds.map .int)) ∧ Fm [H.length] (H ++ [.lst []]) H' ∧ 0 ≤ L ∧ σ = [some (.int cell), some (.int many), some (.ref H.length), some (.int L), some (.bl wide), z5]) (fun _ _ _ _ _ => Zjz) (fun d x t σ H1 ⟨e0, ds, L, z5, e1, e2, e3, x1, hL, e5⟩ => ?_) (fun d σ H1 ⟨e0, ds, L, z5, e1, e2, e3, x1, hL, e5⟩ => ?_) _ [] _ _ ⟨rfl, [], Zbn cell, _, rfl, (by intro d h; cases h), last, Fm.refl, (by unfold Zbn; split <;> omega), rfl⟩
 ·subst e5
  have hx : x ∈ Zar 0 many := by rw [← e0]; simp
  simp only [Zar, List.mem_map, List.mem_range] at hx
  obtain ⟨i, hi, rfl⟩ := hx
  have hd : d.length ≤ 100 := by
   have := congrArg List.length e0
   simp [Zar] at this
   omega
  fail "g"
  refine Zyz (wide && decide (0 < L)) ?_ (fun h => ?_) (fun h => ?_)
  ·fail "g"
   cases wide
   ·exact ⟨(fun z => nomatch z), fun _ => ⟨rfl, rfl⟩⟩
   ·refine ⟨fun _ => ?_, (fun z => nomatch z)⟩
    fail "g"
    exact ⟨rfl, by simp⟩
  ·fail "g"
   refine ⟨isl e3, ?_⟩
   fail "g"
   refine Zha e3 (by simp; omega) ?_
   fail "g"
   have m0 := Int.emod_nonneg L (show (10007 : Int) ≠ 0 by decide)
   have m1 := Int.emod_lt_of_pos L (show (0 : Int) < 10007 by decide)
   refine ⟨by rw [← e0]; simp, ds ++ [L % 10007], L / 10007, _, by simp [e1], ?_, ?_, x1.trans (Fm.set (by simp)), Int.ediv_nonneg hL (by decide), rfl⟩
   ·intro y hy
    rcases List.mem_append.mp hy with h | h
    ·exact e2 y h
    ·simp at h; subst h; exact ⟨m0, by omega⟩
   ·rw [List.map_append]; exact Zrg e3
  ·fail "g"
   refine ⟨isl e3, ?_⟩
   fail "g"
   refine w_mix (by omega) (by omega) fun r H2 r0 r1 x2 => ?_
   fail "g"
   have e3' := x2.lst (by simp) e3
   refine Zha e3' (by simp; omega) ?_
   fail "g"
   refine ⟨by rw [← e0]; simp, ds ++ [r], L, _, by simp [e1], ?_, ?_, (x1.trans (x2.sub (by simp))).trans (Fm.set (by simp)), hL, rfl⟩
   ·intro y hy
    rcases List.mem_append.mp hy with h | h
    ·exact e2 y h
    ·simp at h; subst h; exact ⟨r0, r1⟩
   ·rw [List.map_append]; exact Zrg e3'
 ·subst e5
  have hd : d.length = many := by
   have := congrArg List.length e0
   simpa [Zar] using this
  fail "g"
  exact q ds _ H1 (by omega) e2 e3 (Nat.le_refl _) ((Fm.app (S := []) _).new x1 (by intro m hm _; simp at hm; omega))
theorem w_at {ns : List Int} {k : Int} (h0 : 0 ≤ k) (h1 : k ≤ 1000) (q : ∀ c, Q (.int c) H) : wE (Zcl [.fl (ns.map .int), .int k] H) Q := by
 refine Zbc rfl ?_
 show wS (Zfr [some (.fl (ns.map .int)), some (.int k)] H) _
 unfold Zfr
 fail "i"
 refine ⟨fun h => ?_, fun h => ?_⟩
 ·have lt : k.toNat < ns.length := by have := of_decide_eq_true h; simp at this; omega
  fail "g"
  refine w_ixF (Zlq h0 (d := .int ns[k.toNat]) (by rw [List.getElem?_map, List.getElem?_eq_getElem lt]; rfl)) ?_
  fail "g"
  exact q _
 ·fail "g"
  exact q _
theorem Zax {p : Nat} {ds : List Int} {i : Int} (g : H[p]? = some (.lst (ds.map .int))) (hd : Zr3 ds) (h0 : 0 ≤ i) (h1 : i < ds.length) (q : ∀ r, 0 ≤ r -> r < 2147483648 -> Q (.int r) H) : wE (ixD (.ref p) (.int i) H) Q := by
 have lt : i.toNat < ds.length := by omega
 have hm := hd _ (List.getElem_mem lt)
 exact w_ixR g (Zlq h0 (d := .int ds[i.toNat]) (by rw [List.getElem?_map, List.getElem?_eq_getElem lt]; rfl)) (q _ hm.1 hm.2)
theorem Zvc {r : Int} (h0 : 0 ≤ r) (h1 : r < 2) : ∃ k, Zbw k ∧ atI [D.str "all", .str "some"] r = some k := by
 rcases (show r = 0 ∨ r = 1 by omega) with rfl | rfl
 ·exact ⟨_, .inl rfl, rfl⟩
 ·exact ⟨_, .inr rfl, rfl⟩
theorem Zyx {r : Int} (h0 : 0 ≤ r) (h1 : r < 2) : ∃ k, Zbw k ∧ atI [D.str "some", .str "all"] r = some k := by
 rcases (show r = 0 ∨ r = 1 by omega) with rfl | rfl
 ·exact ⟨_, .inr rfl, rfl⟩
 ·exact ⟨_, .inl rfl, rfl⟩
theorem mod2 (r : Int) : 0 ≤ r % 2 ∧ r % 2 < 2 := by omega
theorem Zw8 {p : Nat} {ds : List Int} {many : Nat} (g : H[p]? = some (.lst (ds.map .int))) (hd : Zr3 ds) (hl : many + 1 ≤ ds.length) (h100 : many ≤ 100) (q : ∀ ks H', (∀ d ∈ ks, Zbw d) -> ks.length = many -> Fm [] H H' -> Q (.tup ks) H') : wE (Ze3 [.ref p, .int many] H) Q := by
 refine Zbc rfl ?_
 show wS (Zct [some (.ref p), some (.int many), none, none, none] H) _
 unfold Zct
 fail "g"
 have hp : p < H.length := (List.getElem?_eq_some_iff.mp g).1
 refine ⟨_, rfl, ⟨by omega, by omega⟩, ?_⟩
 rw [show ((many : Int)).toNat = many by omega]
 refine Zd7 (fun d t σ H' => d ++ t = Zar 0 many ∧ ∃ (ks : List D) (z3 z4 : Option D), ks.length = d.length ∧ (∀ d ∈ ks, Zbw d) ∧ H'[H.length]? = some (.lst ks) ∧ Fm [H.length] (H ++ [.lst []]) H' ∧ σ = [some (.ref p), some (.int many), some (.ref H.length), z3, z4]) (fun _ _ _ _ _ => Zjz) (fun d x t σ H1 ⟨e0, ks, z3, z4, e1, e2, e3, x1, e5⟩ => ?_) (fun d σ H1 ⟨e0, ks, z3, z4, e1, e2, e3, x1, e5⟩ => ?_) _ [] _ _ ⟨rfl, [], _, _, rfl, (by intro d h; cases h), last, Fm.refl, rfl⟩
 ·subst e5
  have hx : x ∈ Zar 0 many := by rw [← e0]; simp
  simp only [Zar, List.mem_map, List.mem_range] at hx
  obtain ⟨i, hi, rfl⟩ := hx
  have hdl : d.length ≤ 100 := by
   have := congrArg List.length e0
   simp [Zar] at this
   omega
  have gp : H1[p]? = some (.lst (ds.map .int)) := x1.lst (by simp; omega) (appL g)
  have Jn : ∀ (L : List D) {H2 : HD}, Fm [H.length] (H ++ [.lst []]) H2 -> H2[p]? = some (.lst (ds.map .int)) -> H2[H.length]? = some (.lst ks) -> Fm [H.length] (H ++ [.lst []]) (H2 ++ [.lst L]) ∧ (H2 ++ [.lst L])[p]? = some (.lst (ds.map .int)) ∧ (H2 ++ [.lst L])[H.length]? = some (.lst ks) := fun L H2 a b c => ⟨a.trans (Fm.app _), appL b, appL c⟩
  refine w_gnm (w_seq ?_)
  refine Zlu (fun σ H2 => (Fm [H.length] (H ++ [.lst []]) H2 ∧ H2[p]? = some (.lst (ds.map .int)) ∧ H2[H.length]? = some (.lst ks)) ∧ ∃ k, Zbw k ∧ σ = [some (.ref p), some (.int many), some (.ref H.length), some (.int (0 + i)), some k]) ?_ ?_
  ·fail "g"
   refine Zax (appL gp) hd (by omega) (by omega) fun r r0 r1 => ?_
   fail "g"
   obtain ⟨k, hk, ek⟩ := Zvc (mod2 r).1 (mod2 r).2
   refine w_ixR last ek ?_
   exact ⟨rfl, Jn _ x1 gp e3, k, hk, rfl⟩
  rintro _ H2 ⟨⟨x2, g2, e4⟩, k, hk, rfl⟩
  refine w_seq (Zlu (fun σ H2 => (Fm [H.length] (H ++ [.lst []]) H2 ∧ H2[p]? = some (.lst (ds.map .int)) ∧ H2[H.length]? = some (.lst ks)) ∧ ∃ k, Zbw k ∧ σ = [some (.ref p), some (.int many), some (.ref H.length), some (.int (0 + i)), some k]) ?_ ?_)
  ·(refine WP.w_if ?_; fail "g")
   refine Zax g2 hd (by omega) (by omega) fun r r0 r1 => ?_
   fail "g"
   refine ⟨fun h => ?_, fun h => ?_⟩
   ·fail "g"
    refine Zax (appL g2) hd (by omega) (by omega) fun r' r0' r1' => ?_
    fail "g"
    obtain ⟨k2, hk2, ek2⟩ := Zyx (mod2 (0 + (i : Int) + r')).1 (mod2 _).2
    refine w_ixR last ek2 ?_
    fail "g"
    exact ⟨rfl, Jn _ x2 g2 e4, k2, hk2, rfl⟩
   ·fail "g"
    exact ⟨rfl, ⟨x2, g2, e4⟩, k, hk, rfl⟩
  rintro _ H3 ⟨⟨x3, g3, e6⟩, k, hk, rfl⟩
  refine w_seq (Zlu (fun σ H2 => (Fm [H.length] (H ++ [.lst []]) H2 ∧ H2[p]? = some (.lst (ds.map .int)) ∧ H2[H.length]? = some (.lst ks)) ∧ ∃ k, Zbw k ∧ σ = [some (.ref p), some (.int many), some (.ref H.length), some (.int (0 + i)), some k]) ?_ ?_)
  ·(refine WP.w_if ?_; fail "g")
   refine Zax g3 hd (by omega) (by omega) fun r r0 r1 => ?_
   fail "g"
   refine ⟨fun h => ?_, fun h => ?_⟩
   ·fail "g"
    refine Zax (appL g3) hd (by omega) (by omega) fun r' r0' r1' => ?_
    fail "g"
    obtain ⟨k2, hk2, ek2⟩ := Zvc (r := if decide (0 < r' % 3) = true then 1 else 0) (by split <;> omega) (by split <;> omega)
    refine w_ixR last ek2 ?_
    fail "g"
    exact ⟨rfl, Jn _ x3 g3 e6, k2, hk2, rfl⟩
   ·fail "g"
    exact ⟨rfl, ⟨x3, g3, e6⟩, k, hk, rfl⟩
  rintro _ H4 ⟨⟨x4, g4, e7⟩, k, hk, rfl⟩
  fail "g"
  refine ⟨isl e7, ?_⟩
  fail "g"
  refine Zha e7 (by omega) ?_
  fail "g"
  refine ⟨by rw [← e0]; simp, ks ++ [k], _, _, by simp [e1], ?_, Zrg e7, x4.trans (Fm.set (by simp)), rfl⟩
  intro y hy
  rcases List.mem_append.mp hy with h | h
  ·exact e2 y h
  ·simp at h; subst h; exact hk
 ·subst e5
  have hdl : d.length = many := by
   have := congrArg List.length e0
   simpa [Zar] using this
  fail "g"
  exact q ks H1 e2 (by omega) ((Fm.app (S := []) _).new x1 (by intro m hm _; simp at hm; omega))
theorem Zqv {m : Int} : ∀ (ls : List Int) (last l : Int), Up m last ls -> (∀ x ∈ ls, Zbn x < Zbn l) -> last < Zbn l -> Zbn l ≤ m -> Up m last (ls ++ [l])
 | [], last, l, _, _, h1, h2 => ⟨h1, h2, trivial⟩
 | x :: r, last, l, u, h, h1, h2 => by
  obtain ⟨u1, u2, u3⟩ := u
  exact ⟨u1, u2, Zqv r (Zbn x) l u3 (fun y hy => h y (by simp [hy])) (h x (by simp)) h2⟩
theorem Zgl (lo : Int) (m : Nat) : Zar lo (m + 1) = .int lo :: Zar (lo + 1) m := by
 unfold Zar
 rw [List.range_succ_eq_map, List.map_cons, List.map_map]
 have e0 : D.int (lo + ((0 : Nat) : Int)) = .int lo := by simp
 rw [e0]
 refine congrArg (List.cons _) (List.map_congr_left fun a _ => ?_)
 show D.int _ = D.int _
 congr 1
 omega
theorem Zxy {cell : Int} {M : Nat} {wide : Int} (hM : M ≤ 8) (q : ∀ ls H', Up M 0 ls -> Fm [] H H' -> Q (Za7 ls) H') : wE (Zhw [.int cell, .int M, .int wide] H) Q := by
 refine Zbc rfl ?_
 show wS (Zen [some (.int cell), some (.int M), some (.int wide), none, none, none] H) _
 unfold Zen
 fail "g"
 rw [show (M : Int) + 1 = ((M + 1 : Nat) : Int) by omega]
 refine Zfk (by omega) fun ds p H1 l1 d1 g1 n1 x1 => ?_
 fail "g"
 refine ⟨_, rfl, ⟨by omega, by omega⟩, ?_⟩
 rw [Int.toNat_natCast]
 refine Zd7 (fun d t σ H' => ∃ ls : List Int, t = Zar (d.length : Int) (M - d.length) ∧ H'[p]? = some (.lst (ds.map .int)) ∧ H'[H1.length]? = some (.lst (ls.map .int)) ∧ ls.length ≤ d.length ∧ d.length ≤ M ∧ Up M 0 ls ∧ (∀ x ∈ ls, Zbn x ≤ d.length) ∧ Fm [] H H' ∧ ∃ z, σ = [some (.int cell), some (.int M), some (.int wide), some (.ref p), some (.ref H1.length), z]) (fun _ _ _ _ _ => Zjz) (fun d x t σ H2 ⟨ls, i1, i2, i3, i4, i5, i6, i7, i8, z, i9⟩ => ?_) (fun d σ H2 ⟨ls, i1, i2, i3, i4, i5, i6, i7, i8, z, i9⟩ => ?_) _ [] _ _ ⟨[], by simp, appL g1, last, by simp, by simp, trivial, by simp, x1.trans (Fm.app _), none, rfl⟩
 ·subst i9
  obtain ⟨k, hk⟩ : ∃ k, M - d.length = k + 1 := by
   cases h : M - d.length with
   | zero => rw [h] at i1; simp [Zar] at i1
   | succ k => exact ⟨k, rfl⟩
  rw [hk, Zgl] at i1
  obtain ⟨rfl, rfl⟩ := List.cons.inj i1
  have tl : Zar ((d.length : Int) + 1) k = Zar (((d ++ [D.int (d.length : Int)]).length : Nat) : Int) (M - (d ++ [D.int (d.length : Int)]).length) := by
   simp only [List.length_append, List.length_cons, List.length_nil]
   congr 1
   omega
  fail "i"
  refine Zax i2 d1 (by omega) (by omega) fun r r0 r1 => ?_
  fail "g"
  refine w_mod (by omega) ?_
  fail "g"
  refine Zax i2 d1 (by omega) (by omega) fun r' r0' r1' => ?_
  fail "g"
  refine ⟨fun h => ?_, fun h => ?_⟩
  ·fail "g"
   refine ⟨isl i3, ?_⟩
   fail "g"
   refine Zax (appL i2) d1 (by omega) (by omega) fun r2 r20 r21 => ?_
   fail "g"
   refine w_fdiv (by omega) (by omega) ?_
   fail "g"
   have m2 : r2 / ((M : Int) + 1) % 2 = 0 ∨ r2 / ((M : Int) + 1) % 2 = 1 := by omega
   obtain ⟨l, hl, el⟩ : ∃ l : Int, Zbn l = (d.length : Int) + 1 ∧ atI [D.int ((d.length : Int) + 1), .int (0 - (d.length : Int) - 1)] (r2 / ((M : Int) + 1) % 2) = some (.int l) := by
    rcases m2 with z | z <;> rw [z]
    ·exact ⟨_, by unfold Zbn; split <;> omega, rfl⟩
    ·exact ⟨_, by unfold Zbn; split <;> omega, rfl⟩
   refine w_ixR last el ?_
   fail "g"
   refine Zha (appL i3) (by simp; omega) ?_
   fail "g"
   have np : H1.length ≠ p := by have := (List.getElem?_eq_some_iff.mp g1).1; omega
   refine ⟨ls ++ [l], tl, Ya2 np (appL i2), by rw [Zrg (appL i3)]; simp, by simp; omega, by simp; omega, Zqv ls 0 l i6 (fun x hx => by have := i7 x hx; omega) (by omega) (by omega), fun x hx => ?_, ?_, _, rfl⟩
   ·rcases List.mem_append.mp hx with z | z
    ·have := i7 x z; simp; omega
    ·simp at z; subst z; simp; omega
   ·exact (i8.trans (Fm.app _)).new (Fm.set (S := [H1.length]) (by simp)) (fun q hq _ => by simp at hq; subst hq; exact x1.len)
  ·fail "g"
   exact ⟨ls, tl, i2, i3, by simp; omega, by simp; omega, i6, fun x hx => by have := i7 x hx; simp; omega, i8, _, rfl⟩
 ·subst i9
  fail "g"
  exact q ls H2 i6 i8
theorem Zlx {p : Nat} {xs : List D} {k : Nat} (g : H[p]? = some (.lst xs)) (q : Q (.ref H.length) (H ++ [.lst (xs.drop k)])) : wE (slD (.ref p) (some (k : Int)) none H) Q :=
 ⟨_, _, by rw [← Zuv]; simp only [slD, g], q⟩
theorem Zr3.drop {ds : List Int} (h : Zr3 ds) (k : Nat) : Zr3 (ds.drop k) := fun d hd => h d (List.mem_of_mem_drop hd)
theorem Zcb (ls : List Int) : Fines (ls.map .int) (ls.map .int) 0 := by
 induction ls with
 | nil => exact .nil
 | cons l r ih => exact .cons (.int l) ih
theorem Zqz {sd : D} {most : Nat} (at' : ∀ (H : HD) (k : Int) (Q : D -> HD -> Prop), 0 ≤ k -> k ≤ 1000 -> (∀ c, Q (.int c) H) -> wE (Zcl [sd, .int k] H) Q) (hm : 2 ≤ most ∧ most ≤ 8) (q : ∀ ks rss H', Cl ks rss -> ks.length ≤ most -> rss.length ≤ 20 -> Fm [] H H' -> Q (Zaj ks rss) H') : wE (Ze1 [sd, .int most] H) Q := by
 refine Zbc rfl ?_
 show wS (Zcr [some sd, some (.int most), none, none, none, none, none] H) _
 unfold Zcr
 fail "g"
 refine at' _ _ _ (by omega) (by omega) fun c => ?_
 fail "g"
 refine Zfk (many := 14) (by omega) fun ds pd H1 l1 d1 g1 n1 x1 => ?_
 fail "g"
 refine Zax g1 d1 (by omega) (by omega) fun a a0 a1 => ?_
 fail "g"
 refine w_mod (by omega) ?_
 fail "g"
 refine Zax g1 d1 (by omega) (by omega) fun a' a0' a1' => ?_
 fail "g"
 refine Zax (appL g1) d1 (by omega) (by omega) fun b b0 b1 => ?_
 fail "g"
 have m3 : b % 3 = 0 ∨ b % 3 = 1 ∨ b % 3 = 2 := by omega
 obtain ⟨N, hN, eN⟩ : ∃ N : Nat, N ≤ most ∧ atI [D.int (a % ((most : Int) + 1)), .int ((most : Int) - a' % 3), .int (most : Int)] (b % 3) = some (.int N) := by
  have e1 := Int.emod_nonneg a (show (most : Int) + 1 ≠ 0 by omega)
  have e2 := Int.emod_lt_of_pos a (show 0 < (most : Int) + 1 by omega)
  rcases m3 with z | z | z <;> rw [z]
  ·refine ⟨(a % ((most : Int) + 1)).toNat, by omega, ?_⟩
   rw [Int.toNat_of_nonneg e1]; rfl
  ·refine ⟨((most : Int) - a' % 3).toNat, by omega, ?_⟩
   rw [Int.toNat_of_nonneg (by omega)]; rfl
  ·exact ⟨most, Nat.le_refl _, rfl⟩
 refine w_ixR last eN ?_
 fail "g"
 refine Zlx (k := 2) (appL g1) ?_
 fail "g"
 rw [show (if (N : Int) > 0 then (N : Int) else 0) = (N : Int) by split <;> omega]
 rw [← List.map_drop]
 refine Zw8 (many := N) last (d1.drop 2) (by simp; omega) (by omega) fun ks H2 hk lk x2 => ?_
 have X2 : Fm [] H H2 := ((x1.trans (Fm.app _)).trans (Fm.app _)).trans x2
 have g2 := x2.lst (by simp) (appL (u := DO.lst ((ds.drop 2).map D.int)) (appL (u := DO.lst [D.int (a % ((most : Int) + 1)), .int ((most : Int) - a' % 3), .int (most : Int)]) g1))
 fail "g"
 refine Zax g2 d1 (by omega) (by omega) fun u0 u1 u2 => ?_
 fail "g"
 refine Zax g2 d1 (by omega) (by omega) fun v0 v1 v2 => ?_
 fail "g"
 refine Zax g2 d1 (by omega) (by omega) fun y0 y1 y2 => ?_
 fail "g"
 refine Zax (appL g2) d1 (by omega) (by omega) fun e e0 e1 => ?_
 fail "g"
 have m3' : e % 3 = 0 ∨ e % 3 = 1 ∨ e % 3 = 2 := by omega
 obtain ⟨Z, hZ, eZ⟩ : ∃ Z : Nat, Z ≤ 20 ∧ atI [D.int (u0 % 5), .int (v0 % 11), .int (5 + y0 % 16)] (e % 3) = some (.int Z) := by
  rcases m3' with z | z | z <;> rw [z]
  ·refine ⟨(u0 % 5).toNat, by omega, ?_⟩
   rw [Int.toNat_of_nonneg (by omega)]; rfl
  ·refine ⟨(v0 % 11).toNat, by omega, ?_⟩
   rw [Int.toNat_of_nonneg (by omega)]; rfl
  ·refine ⟨(5 + y0 % 16).toNat, by omega, ?_⟩
   rw [Int.toNat_of_nonneg (by omega)]; rfl
 refine w_ixR last eZ ?_
 fail "g"
 refine ⟨_, rfl, ⟨by omega, by omega⟩, ?_⟩
 rw [Int.toNat_natCast]
 have Y : Fm [] H (H2 ++ [DO.lst [D.int (u0 % 5), .int (v0 % 11), .int (5 + y0 % 16)]]) := X2.trans (Fm.app _)
 refine Zq1 (fun d t o H' => ∃ rss : List (List Int), o = rss.map Za7 ∧ rss.length = d.length ∧ d.length + t.length = Z ∧ (∀ ls ∈ rss, Up N 0 ls) ∧ (∀ x ∈ t, ∃ i : Nat, x = .int i ∧ i ≤ 100) ∧ True ∧ H'[pd]? = some (.lst (ds.map .int)) ∧ Fm [] H H') (fun _ _ _ _ _ => Zjz) (fun d x t o H3 ⟨rss, i1, i2, i3, i4, i5, i6, i7, i8⟩ => ?_) _ [] [] _ ⟨[], rfl, rfl, by simp [Zar], by simp, fun x hx => ?_, trivial, appL g2, Y⟩ (fun d o H3 ⟨rss, i1, i2, i3, i4, i5, i6, i7, i8⟩ => ?_)
 ·obtain ⟨i, rfl, hi⟩ := i5 x (by simp)
  fail "g"
  refine at' _ _ _ (by omega) (by omega) fun cell => ?_
  fail "g"
  rw [lk]
  refine Zxy (by omega) fun ls H4 u x4 => ?_
  refine ⟨rss ++ [ls], by rw [i1]; simp, by simp [i2], by simp at i3 ⊢; omega, fun y hy => ?_, fun y hy => i5 y (by simp [hy]), trivial, x4.lst (by simp) i7, i8.trans x4⟩
  rcases List.mem_append.mp hy with z | z
  ·exact i4 y z
  ·simp at z; subst z; exact u
 ·simp only [Zar, List.mem_map, List.mem_range] at hx
  obtain ⟨k, hk, rfl⟩ := hx
  exact ⟨k, by simp, by omega⟩
 rw [List.nil_append] at i1
 simp only [List.length_nil, Nat.add_zero] at i3
 subst i1
 refine ⟨by simp; omega, ?_⟩
 show wS (Zaf _ _ [some sd, some (.int most), some (.ref pd), some (.int N), some (.tup ks), some (.int Z), some (.ref H3.length)] (H3 ++ [.lst (rss.map Za7)])) _
 refine w_seq (Zlu (fun σ H' => ∃ (rs : List (List Int)) (pr : Nat), H'[pr]? = some (.lst (rs.map Za7)) ∧ rs.length ≤ 20 ∧ (∀ ls ∈ rs, Up N 0 ls) ∧ Fm [] H H' ∧ σ = [some sd, some (.int most), some (.ref pd), some (.int N), some (.tup ks), some (.int Z), some (.ref pr)]) ?_ ?_)
 ·(refine WP.w_if ?_; fail "g")
  refine Zax (appL i7) d1 (by omega) (by omega) fun r r0 r1 => ?_
  fail "g"
  refine ⟨fun h => ?_, fun h => ?_⟩
  ·fail "g"
   refine Zd9 (fun d => match d with | .tup xs => !xs.isEmpty | _ => true) (fun H' => H' = H3 ++ [.lst (rss.map Za7)]) (fun _ j => by rw [j]; exact Zus last) _ (fun x hx H4 j => ?_) _ rfl fun H4 j => ?_
   ·obtain ⟨ls, hls, rfl⟩ := List.mem_map.mp hx
    subst j
    fail "g"
    refine Zwo (Fine.tup (Zcb ls)) (Fine.tup (h := 0) Fines.nil) (by omega) (by omega) ?_
    refine ⟨_, rfl, ?_, rfl⟩
    cases ls <;> simp [PyData.eqv, PyData.eqvAll, Za7]
   ·subst j
    have ef : (rss.map Za7).filter (fun d => match d with | .tup xs => !xs.isEmpty | _ => true) = (rss.filter fun ls => !ls.isEmpty).map Za7 := by
     rw [List.filter_map]
     congr 1
     exact List.filter_congr fun ls _ => by cases ls <;> rfl
    rw [ef]
    have lf := List.length_filter_le (fun ls : List Int => !ls.isEmpty) rss
    refine ⟨by simp; omega, ?_⟩
    fail "g"
    exact ⟨rfl, _, _, last, by omega, fun ls h => i4 ls (List.mem_filter.mp h).1, (i8.trans (Fm.app _)).trans (Fm.app _), rfl⟩
  ·fail "g"
   exact ⟨rfl, rss, _, last, by omega, i4, i8.trans (Fm.app _), rfl⟩
 rintro _ H4 ⟨rs, pr, g4, l4, u4, X4, rfl⟩
 fail "g"
 refine q ks rs H4 ⟨hk, fun ls h => by rw [lk]; exact u4 ls h, by omega, by omega⟩ (by omega) l4 X4
structure Shs (xs : List PyData) (w dp : Nat) : Prop where
 lay : PyData.canLayAll0 xs = true
 sh : PyData.showableAll xs = true
 dep : PyData.depthAll xs ≤ dp
 lv : PyData.leavesShortAll 40 xs = true
 wt : PyData.weightAll xs ≤ w
noncomputable def T (S : List Nat) (H : HD) (k w : Nat) (d : D) : Prop := ∃ x, (∀ H', Fm S H H' -> ∀ m, k ≤ m -> toP H' m d = some x) ∧ Sh x w k
noncomputable def Ts (S : List Nat) (H : HD) (k w : Nat) (ds : List D) : Prop := ∃ xs, (∀ H', Fm S H H' -> ∀ m, k ≤ m -> Zik H' m ds = some xs) ∧ Shs xs w k ∧ ds.length ≤ w
section
variable {S : List Nat} {H : HD} {k w : Nat} {d : D} {ds : List D}
theorem T.of (h : Zic d w k) : T S H k w d := by
 obtain ⟨x, e, s⟩ := h
 exact ⟨x, fun H' _ m _ => e H' m, s⟩
theorem T.le {k' w' : Nat} (h : T S H k w d) (hk : k ≤ k') (hw : w ≤ w') : T S H k' w' d := by
 obtain ⟨x, e, s⟩ := h
 exact ⟨x, fun H' y m hm => e H' y m (Nat.le_trans hk hm), s.lay, s.sh, Nat.le_trans s.dep hk, s.lv, Nat.le_trans s.wt hw⟩
theorem Ts.le {k' w' : Nat} (h : Ts S H k w ds) (hk : k ≤ k') (hw : w ≤ w') : Ts S H k' w' ds := by
 obtain ⟨x, e, s, l⟩ := h
 exact ⟨x, fun H' y m hm => e H' y m (Nat.le_trans hk hm), ⟨s.lay, s.sh, Nat.le_trans s.dep hk, s.lv, Nat.le_trans s.wt hw⟩, Nat.le_trans l hw⟩
theorem T.fm {H1 : HD} (h : T S H k w d) (y : Fm S H H1) : T S H1 k w d := by
 obtain ⟨x, e, s⟩ := h
 exact ⟨x, fun H' z m hm => e H' (y.trans z) m hm, s⟩
theorem T.fm0 {H1 : HD} (h : T S H k w d) (y : Fm [] H H1) : T S H1 k w d := h.fm (y.sub (by simp))
theorem Ts.fm {H1 : HD} (h : Ts S H k w ds) (y : Fm S H H1) : Ts S H1 k w ds := by
 obtain ⟨x, e, s, l⟩ := h
 exact ⟨x, fun H' z m hm => e H' (y.trans z) m hm, s, l⟩
theorem Ts.nil : Ts S H k w [] := ⟨[], fun H' _ m _ => by rw [Zik], ⟨rfl, rfl, Nat.zero_le _, rfl, Nat.zero_le _⟩, Nat.zero_le _⟩
theorem Ts.cons {W : Nat} (a : T S H k w d) (b : Ts S H k W ds) : Ts S H k (w + W + 1) (d :: ds) := by
 obtain ⟨x, e1, s⟩ := a
 obtain ⟨xs, e2, s2, l⟩ := b
 refine ⟨x :: xs, fun H' y m hm => by rw [Zik, e1 H' y m hm, e2 H' y m hm]; rfl, ⟨?_, ?_, ?_, ?_, ?_⟩, by simp; omega⟩
 ·simp [PyData.canLayAll0, s.lay, s2.lay]
 ·simp [PyData.showableAll, s.sh, s2.sh]
 ·simp only [PyData.depthAll]; exact Nat.max_le.mpr ⟨s.dep, s2.dep⟩
 ·simp [PyData.leavesShortAll, s.lv, s2.lv]
 ·simp only [PyData.weightAll]
  have := s.wt
  have := s2.wt
  omega
theorem Zjx {H : HD} {m : Nat} {d : D} {ds : List D} {xs : List PyData} (h : Zik H m (d :: ds) = some xs) : ∃ x qs, toP H m d = some x ∧ Zik H m ds = some qs ∧ xs = x :: qs := by
 rw [Zik] at h
 obtain ⟨x, e1, h⟩ := Zo h
 obtain ⟨qs, e2, rfl⟩ := Zm h
 exact ⟨x, qs, e1, e2, rfl⟩
theorem Zgu {H : HD} {m : Nat} : ∀ {ds : List D} {xs : List PyData}, Zik H m ds = some xs -> xs.length = ds.length
 | [], xs, h => by rw [Zik] at h; cases h; rfl
 | d :: ds, xs, h => by
  obtain ⟨x, qs, _, e2, rfl⟩ := Zjx h
  simp [Zgu e2]
theorem Zf4 : ∀ xs : List PyData, xs.length ≤ PyData.weightAll xs
 | [] => Nat.zero_le _
 | x :: xs => by
  simp only [PyData.weightAll, List.length_cons]
  have := Zf4 xs
  omega
theorem Ts.two (h : Ts S H k w (d :: ds)) : ∃ a b, T S H k a d ∧ Ts S H k b ds ∧ a + b + 1 ≤ w := by
 obtain ⟨xs, e, s, l⟩ := h
 obtain ⟨x, qs, e1, e2, rfl⟩ := Zjx (e H Fm.refl k (Nat.le_refl _))
 have lay := s.lay
 have sh := s.sh
 have dep := s.dep
 have lv := s.lv
 have wt := s.wt
 simp only [PyData.canLayAll0, Bool.and_eq_true] at lay
 simp only [PyData.showableAll, Bool.and_eq_true] at sh
 simp only [PyData.depthAll] at dep
 simp only [PyData.leavesShortAll, Bool.and_eq_true] at lv
 simp only [PyData.weightAll] at wt
 have at_ : ∀ H', Fm S H H' -> ∀ m, k ≤ m -> toP H' m d = some x ∧ Zik H' m ds = some qs := fun H' y m hm => by
  obtain ⟨x', qs', e3, e4, e5⟩ := Zjx (e H' y m hm)
  cases e5
  exact ⟨e3, e4⟩
 have ll := Zgu e2
 have wl := Zf4 qs
 refine ⟨x.weight, PyData.weightAll qs, ⟨x, fun H' y m hm => (at_ H' y m hm).1, lay.1, sh.1, by omega, lv.1, Nat.le_refl _⟩, ⟨qs, fun H' y m hm => (at_ H' y m hm).2, ⟨lay.2, sh.2, by omega, lv.2, Nat.le_refl _⟩, by omega⟩, by omega⟩
theorem T.tup (h : Ts S H k w ds) : T S H (k + 1) w (.tup ds) := by
 obtain ⟨xs, e, s, _⟩ := h
 refine ⟨.tuple xs, fun H' y m hm => ?_, s.lay, s.sh, Nat.succ_le_succ s.dep, s.lv, s.wt⟩
 have q := e H' y m (by omega)
 cases m <;> rw [toP, q] <;> rfl
theorem T.parts (h : T S H k w (.tup ds)) : Ts S H k w ds := by
 obtain ⟨x, e, s⟩ := h
 have at_ : ∀ H', Fm S H H' -> ∀ m, k ≤ m -> ∃ xs, Zik H' m ds = some xs ∧ x = .tuple xs := fun H' y m hm => by
  have := e H' y m hm
  cases m <;> rw [toP] at this <;> (obtain ⟨xs, e2, e3⟩ := Zm this; exact ⟨xs, e2, e3.symm⟩)
 obtain ⟨xs, e1, rfl⟩ := at_ H Fm.refl k (Nat.le_refl _)
 have ll := Zgu e1
 have wl := Zf4 xs
 have wt : PyData.weightAll xs ≤ w := s.wt
 refine ⟨xs, fun H' y m hm => ?_, ⟨s.lay, s.sh, ?_, s.lv, wt⟩, by omega⟩
 ·obtain ⟨ys, e2, e3⟩ := at_ H' y m hm
  cases e3
  exact e2
 ·have := s.dep
  simp only [PyData.depth] at this
  omega
theorem T.lst {p : Nat} (hp : p ∉ S) (hd : H[p]? = some (.lst ds)) (h : Ts S H k w ds) : T S H (k + 1) w (.ref p) := by
 obtain ⟨xs, e, s, _⟩ := h
 refine ⟨.list xs, fun H' y m hm => ?_, s.lay, s.sh, Nat.succ_le_succ s.dep, s.lv, s.wt⟩
 match m, hm with
 | m + 1, hm =>
  rw [toP]
  simp only [y.lst hp hd, e H' y m (by omega), Option.map_some]
theorem Ts.app {W : Nat} {es : List D} : ∀ {ds : List D} {w : Nat}, Ts S H k w ds -> Ts S H k W es -> Ts S H k (w + W) (ds ++ es)
 | [], w, _, b => b.le (Nat.le_refl _) (by omega)
 | d :: ds, w, a, b => by
  obtain ⟨a1, a2, t1, t2, l⟩ := a.two
  exact (Ts.cons t1 (Ts.app t2 b)).le (Nat.le_refl _) (by omega)
theorem Ts.take : ∀ (i : Nat) {ds : List D} {w : Nat}, Ts S H k w ds -> Ts S H k w (ds.take i)
 | 0, ds, w, a => Ts.nil
 | i + 1, [], w, a => a
 | i + 1, d :: ds, w, a => by
  obtain ⟨a1, a2, t1, t2, l⟩ := a.two
  exact (Ts.cons t1 (Ts.take i t2)).le (Nat.le_refl _) (by omega)
theorem Yay : ∀ j : Fin 413, (PyData.shown (.int ((j.val : Int) - 206))).length ≤ 40 ∧ ((PyData.int ((j.val : Int) - 206)).showable = true) ∧ (PyData.int ((j.val : Int) - 206)).weight ≤ 40 := by decide
theorem T.int {i : Int} (h0 : -206 ≤ i) (h1 : i ≤ 206) : T S H k 40 (.int i) := by
 have h := Yay ⟨(i + 206).toNat, by omega⟩
 have e : (((i + 206).toNat : Nat) : Int) - 206 = i := by omega
 rw [e] at h
 exact ⟨.int i, fun H' _ m _ => Zh2 H' m i, rfl, h.2.1, Nat.zero_le _, by simp only [PyData.leavesShort]; exact decide_eq_true h.1, h.2.2⟩
theorem shBig : (PyData.shown (.int (10 ^ 20))).length ≤ 40 ∧ (PyData.int (10 ^ 20)).showable = true ∧ (PyData.int (10 ^ 20)).weight ≤ 70 := by decide +kernel
theorem T.big : T S H k 70 (.int (10 ^ 20)) := by
 have h := shBig
 exact ⟨.int (10 ^ 20), fun H' _ m _ => Zh2 H' m _, rfl, h.2.1, Nat.zero_le _, by simp only [PyData.leavesShort]; exact decide_eq_true h.1, h.2.2⟩
theorem T.bl {b : Bool} : T S H k 40 (.bl b) := (T.of Zic.bl).le (Nat.zero_le _) (Nat.le_refl _)
theorem T.non : T S H k 40 .non := (T.of Zic.non).le (Nat.zero_le _) (Nat.le_refl _)
theorem T.str {x : Str} (h : (x.cps.toList.all fun c => decide (c < 0x110000)) = true) (h2 : (x.cps.toList.all fun c => decide (c < 16 ^ 8)) = true) (h3 : x.cps.size ≤ 40) : T S H k 40 (.str x) := (T.of (Zic.str (Zb3 h) h2 h3)).le (Nat.zero_le _) (Nat.le_refl _)
end
noncomputable def Zeq (ks : List D) (x : Int) : Bool := !kS (ks.getD ((Zbn x).toNat - 1) .non)
noncomputable def Zde (ks : List D) : List Int -> List Int
 | [] => []
 | l :: r => if (l :: r).all (Zeq ks) = true then [] else l :: Zde ks r
theorem Zlf (ks : List D) : ∀ b : List Int, (∀ x ∈ b, Zeq ks x = true) -> Zde ks b = []
 | [], _ => rfl
 | x :: r, h => by rw [Zde, if_pos (List.all_eq_true.mpr h)]
theorem Zkm (ks : List D) : ∀ (a b : List Int), (∀ x ∈ b, Zeq ks x = true) -> (∀ x, a.getLast? = some x -> Zeq ks x = false) -> Zde ks (a ++ b) = a
 | [], b, hb, _ => Zlf ks b hb
 | l :: a, b, hb, ha => by
  have hx := ha _ List.getLast?_cons
  have hm : a.getLast?.getD l ∈ l :: a := List.mem_of_getLast? (List.getLast?_cons (a := l) (l := a))
  have hn : ¬ ((l :: (a ++ b)).all (Zeq ks) = true) := fun z => by
   have := List.all_eq_true.mp z _ (by rw [← List.cons_append]; exact List.mem_append_left _ hm)
   rw [hx] at this; cases this
  rw [List.cons_append, Zde, if_neg hn, Zkm ks a b hb fun x h => ha x (by rw [List.getLast?_cons, h]; rfl)]
theorem Zlm (ks : List D) : ∀ a : List Int, (Zde ks a).Sublist a
 | [] => .slnil
 | l :: r => by
  rw [Zde]
  split
  ·exact List.nil_sublist _
  ·exact (Zlm ks r).cons₂ l
structure R (M : Nat) (ls : List Int) : Prop where
 nd : (ls.map Zbn).Nodup
 rg : ∀ x ∈ ls, 1 ≤ Zbn x ∧ Zbn x ≤ M
theorem R.sub {M : Nat} {a b : List Int} (h : R M b) (s : a.Sublist b) : R M a := ⟨(s.map Zbn).nodup h.nd, fun x hx => h.rg x (s.subset hx)⟩
theorem R.perm {M : Nat} {a b : List Int} (h : R M b) (s : a.Perm b) : R M a := ⟨(s.map Zbn).nodup_iff.mpr h.nd, fun x hx => h.rg x (s.mem_iff.mp hx)⟩
theorem Zue : ∀ (M : Nat) (l : List Int), l.Nodup -> (∀ x ∈ l, 1 ≤ x ∧ x ≤ (M : Int)) -> l.length ≤ M
 | 0, [], _, _ => Nat.le_refl _
 | 0, x :: r, _, h => by have := h x (by simp); omega
 | M + 1, l, nd, h => by
  have := Zue M (l.erase ((M : Int) + 1)) (nd.erase _) fun x hx => by
   have h1 := h x (List.mem_of_mem_erase hx)
   have h2 : x ≠ (M : Int) + 1 := fun z => by subst z; exact (List.Nodup.not_mem_erase nd) hx
   omega
  have h3 := List.length_erase (a := (M : Int) + 1) (l := l)
  split at h3 <;> omega
theorem R.len {M : Nat} {ls : List Int} (h : R M ls) : ls.length ≤ M := by
 have := Zue M (ls.map Zbn) h.nd fun x hx => by
  obtain ⟨y, hy, rfl⟩ := List.mem_map.mp hx
  exact h.rg y hy
 simpa using this
theorem R.inj {M : Nat} {ls : List Int} (h : R M ls) {x y : Int} (hx : x ∈ ls) (hy : y ∈ ls) (e : Zbn x = Zbn y) : x = y := by
 obtain ⟨i, hi, rfl⟩ := List.mem_iff_getElem.mp hx
 obtain ⟨j, hj, rfl⟩ := List.mem_iff_getElem.mp hy
 have := (List.getElem_inj (xs := ls.map Zbn) (i := i) (j := j) (h₀ := by simpa using hi) (h₁ := by simpa using hj) h.nd).mp (by simpa using e)
 subst this; rfl
theorem up_R {M : Nat} : ∀ {ls : List Int} {last : Int}, 0 ≤ last -> Up M last ls -> R M ls ∧ ∀ x ∈ ls, last < Zbn x
 | [], _, _, _ => ⟨⟨.nil, by simp⟩, by simp⟩
 | l :: r, last, h0, u => by
  obtain ⟨u1, u2, u3⟩ := u
  obtain ⟨h1, h2⟩ := up_R (by omega) u3
  refine ⟨⟨?_, fun x hx => ?_⟩, fun x hx => ?_⟩
  ·rw [List.map_cons, List.nodup_cons]
   refine ⟨fun z => ?_, h1.nd⟩
   obtain ⟨y, hy, e⟩ := List.mem_map.mp z
   have := h2 y hy
   omega
  ·rcases List.mem_cons.mp hx with rfl | hx
   ·omega
   ·exact h1.rg x hx
  ·rcases List.mem_cons.mp hx with rfl | hx
   ·exact u1
   ·have := h2 x hx; omega
theorem Zju (x : Int) : Zbn (-x) = Zbn x := by unfold Zbn; split <;> split <;> omega
theorem Zp8 {x y : Int} (h : Zbn x = Zbn y) : x = y ∨ x = -y := by unfold Zbn at h; split at h <;> split at h <;> omega
noncomputable def Zeb (a b : List Int) (n : Int) : Option (List Int) :=
 if n ∉ a ∨ -n ∉ b then none
 else if (b.filter fun x => decide (x ≠ -n)).any (fun x => decide (-x ∈ a.filter fun x => decide (x ≠ n))) = true then none
 else some (Zco ((a.filter fun x => decide (x ≠ n)) ++ (b.filter fun x => decide (x ≠ -n)).filter fun x => decide (x ∉ a.filter fun x => decide (x ≠ n))))
theorem R.join0 {M : Nat} {a b : List Int} (ha : R M a) (hb : R M b) (h : b.any (fun x => decide (-x ∈ a)) = false) : R M (a ++ b.filter fun x => decide (x ∉ a)) := by
 have hb' := hb.sub (List.filter_sublist (p := fun x => decide (x ∉ a)) (l := b))
 refine ⟨?_, fun x hx => ?_⟩
 ·rw [List.map_append, List.nodup_append]
  refine ⟨ha.nd, hb'.nd, fun x hx y hy e => ?_⟩
  obtain ⟨u, hu, rfl⟩ := List.mem_map.mp hx
  obtain ⟨v, hv, rfl⟩ := List.mem_map.mp hy
  obtain ⟨hv1, hv2⟩ := List.mem_filter.mp hv
  rcases Zp8 e with z | z
  ·rw [z] at hu
   exact (of_decide_eq_true hv2) hu
  ·have := List.any_eq_false.mp h v hv1
   rw [z] at hu
   exact this (decide_eq_true hu)
 ·rcases List.mem_append.mp hx with z | z
  ·exact ha.rg x z
  ·exact hb'.rg x z
theorem R.join {M : Nat} {a b c : List Int} {n : Int} (ha : R M a) (hb : R M b) (h : Zeb a b n = some c) : R M c := by
 unfold Zeb at h
 split at h
 ·cases h
 ·split at h
  ·cases h
  ·rename_i h2
   cases h
   exact (R.join0 (ha.sub List.filter_sublist) (hb.sub List.filter_sublist) (by simpa using h2)).perm (Zdf _)
noncomputable def stp (ks : List D) (rss made : List (List Int)) (d : D) : Option (List Int) := match d with
 | .tup [.str s, .int i] => if s = "less" then (if 0 ≤ i ∧ i < made.length then some (Zde ks (made.getD i.toNat [])) else none)
  else if s = "row" then (if 0 ≤ i ∧ i < rss.length then some (rss.getD i.toNat []) else none) else none
 | .tup [.str s, .int i, .int j, .int n] => if s = "joined" ∧ (0 ≤ i ∧ i < made.length) ∧ (0 ≤ j ∧ j < made.length) ∧ (1 ≤ n ∧ n ≤ ks.length) ∧ Zeq ks n = false then Zeb (made.getD i.toNat []) (made.getD j.toNat []) n else none
 | _ => none
noncomputable def mad (ks : List D) (rss : List (List Int)) : List (List Int) -> List D -> List (List Int)
 | made, [] => made
 | made, d :: r => match stp ks rss made d with
  | none => made
  | some x => mad ks rss (made ++ [x]) r
noncomputable def mok (ks : List D) (rss : List (List Int)) : List (List Int) -> List D -> Bool
 | _, [] => true
 | made, d :: r => match stp ks rss made d with
  | none => false
  | some x => mok ks rss (made ++ [x]) r
theorem Zfs (ks : List D) (rss : List (List Int)) : ∀ (ds : List D) (made : List (List Int)), mok ks rss made ds = true -> (mad ks rss made ds).length = made.length + ds.length
 | [], made, _ => rfl
 | d :: r, made, h => by
  unfold mok at h
  unfold mad
  cases e : stp ks rss made d with
  | none => rw [e] at h; cases h
  | some x =>
   rw [e] at h
   simp only
   rw [Zfs ks rss r _ h]
   simp; omega
theorem Zp5 (ks : List D) (rss : List (List Int)) : ∀ (ds : List D) (made : List (List Int)), mok ks rss made ds = false -> (mad ks rss made ds).length < made.length + ds.length
 | [], made, h => by cases h
 | d :: r, made, h => by
  unfold mok at h
  unfold mad
  cases e : stp ks rss made d with
  | none => simp
  | some x =>
   rw [e] at h
   simp only
   have := Zp5 ks rss r _ h
   simp at this ⊢; omega
theorem Zjn (ks : List D) (rss : List (List Int)) : ∀ (a b : List D) (made : List (List Int)), mok ks rss made (a ++ b) = (mok ks rss made a && mok ks rss (mad ks rss made a) b)
 | [], b, made => rfl
 | d :: r, b, made => by
  rw [List.cons_append]
  cases e : stp ks rss made d with
  | none => simp only [mok, e, Bool.false_and]
  | some x => simp only [mok, mad, e]; exact Zjn ks rss r b _
theorem Zjq (ks : List D) (rss : List (List Int)) : ∀ (a b : List D) (made : List (List Int)), mok ks rss made a = true -> mad ks rss made (a ++ b) = mad ks rss (mad ks rss made a) b
 | [], b, made, _ => rfl
 | d :: r, b, made, h => by
  rw [List.cons_append]
  cases e : stp ks rss made d with
  | none => simp only [mok, e] at h; cases h
  | some x => simp only [mok, e] at h; simp only [mad, e]; exact Zjq ks rss r b _ h
theorem stp_R {ks : List D} {rss made : List (List Int)} {d : D} {x : List Int} (hr : ∀ ls ∈ rss, R ks.length ls) (hm : ∀ ls ∈ made, R ks.length ls) (h : stp ks rss made d = some x) : R ks.length x := by
 have get : ∀ {l : List (List Int)} {i : Int}, (∀ ls ∈ l, R ks.length ls) -> 0 ≤ i ∧ i < l.length -> R ks.length (l.getD i.toNat []) := fun hl hi => by
  refine hl _ ?_
  rw [List.getD_eq_getElem?_getD, List.getElem?_eq_getElem (by omega)]
  exact List.getElem_mem _
 unfold stp at h
 split at h
 ·split at h
  ·split at h
   ·rename_i hi; cases h; exact (get hm hi).sub (Zlm ks _)
   ·cases h
  ·split at h
   ·split at h
    ·rename_i hi; cases h; exact get hr hi
    ·cases h
   ·cases h
 ·split at h
  ·rename_i hc; exact R.join (get hm hc.2.1) (get hm hc.2.2.1) h
  ·cases h
 ·cases h
theorem Zjr {ks : List D} {rss : List (List Int)} (hr : ∀ ls ∈ rss, R ks.length ls) : ∀ (ds : List D) (made : List (List Int)), (∀ ls ∈ made, R ks.length ls) -> ∀ ls ∈ mad ks rss made ds, R ks.length ls
 | [], made, hm => hm
 | d :: r, made, hm => by
  unfold mad
  cases e : stp ks rss made d with
  | none => exact hm
  | some x =>
   refine Zjr hr r _ fun ls h => ?_
   rcases List.mem_append.mp h with z | z
   ·exact hm ls z
   ·simp at z; subst z; exact stp_R hr hm e
variable {σ : SD} {H : HD} {Q : D -> HD -> Prop}
theorem Zxt {i n : Nat} {x : String} {F : FF} {f : AF} (h : σ[i]? = some (some (.ty x))) (q : wE (Zal n F f σ H) Q) : wE (Zki i n x F f σ H) Q := by
 unfold Zki; rw [h]; simpa using q
theorem Zwf {b su : SF} {y : YFs} {Z : FD -> SD -> HD -> Prop} (h : wS (b σ H) Z) : wS (Zmi b y su σ H) Z := by
 obtain ⟨x, σ2, H2, e, q⟩ := h
 unfold Zmi; rw [e]
 exact ⟨_, _, _, rfl, q⟩
theorem Zwt {b su : SF} {y : YFs} {Z : FD -> SD -> HD -> Prop} (h : wX (b σ H) (y σ H) fun _ H1 => wS (su σ H1) Z) : wS (Zmi b y su σ H) Z := by
 obtain ⟨e, i, H1, e1, q⟩ := h
 unfold Zmi; rw [e]
 simp only
 rw [e1]
 exact q
theorem Zom {cn : Str} {fe : EF} (h : wE (fe σ H) fun _ H1 => Q (.ref H1.length) (H1 ++ [.exc cn])) : wE (Zso cn fe σ H) Q := by
 obtain ⟨d, H1, e, q⟩ := h
 exact ⟨_, _, by unfold Zso; rw [e]; rfl, q⟩
theorem Yax {cn : Str} {fe : EF} (h : wE (fe σ H) fun d H1 => ∃ n : Int, d = .int n ∧ n.natAbs < 1000000 ∧ Q (.ref H1.length) (H1 ++ [.exc cn])) : wE (Zzk cn fe σ H) Q := by
 obtain ⟨d, H1, e, n, rfl, hn, q⟩ := h
 exact ⟨_, _, by unfold Zzk; rw [e]; exact if_pos hn, q⟩
theorem Yal {fe : EF} (h : wE (fe σ H) fun d H1 => ∃ n : Int, d = .int n ∧ n.natAbs < 1000000 ∧ Q (.int n) H1) : wE (Zyf fe σ H) Q := by
 obtain ⟨d, H1, e, n, rfl, hn, q⟩ := h
 exact ⟨_, _, by unfold Zyf; rw [e]; exact if_pos hn, q⟩
noncomputable def isS (d : D) (s : Str) : Bool := match d with
 | .str a => a == s
 | _ => false
noncomputable def isI (d : D) : Bool := match d with
 | .int _ => true
 | _ => false
noncomputable def Zz5 (d : D) : Bool := match d with
 | .tup _ => true
 | _ => false
noncomputable def isSt (d : D) : Bool := match d with
 | .str _ => true
 | _ => false
noncomputable def Zd6 (d : D) (m : Int) : Bool := match d with
 | .int i => decide (0 ≤ i) && decide (i < m)
 | _ => false
theorem Zpq {H : HD} {d : D} {x : PyData} {s : Str} (h : toP H 30 d = some x) : PyData.eqv x (.str s) = isS d s := by
 cases d with
 | non => rw [toP] at h; cases h; rfl
 | bl b => rw [toP] at h; cases h; rfl
 | int i => rw [toP] at h; cases h; rfl
 | str a => rw [toP] at h; cases h; simp [PyData.eqv, isS]
 | ty c => rw [toP] at h; cases h
 | tup ds =>
  rw [toP] at h
  obtain ⟨ps, _, rfl⟩ := Zm h
  simp [PyData.eqv, isS]
 | fl ds =>
  rw [toP] at h
  obtain ⟨ps, _, rfl⟩ := Zm h
  simp [PyData.eqv, isS]
 | ref p =>
  rw [toP] at h
  split at h
  ·obtain ⟨ps, _, rfl⟩ := Zm h
   simp [PyData.eqv, isS]
  ·cases h
section
variable {S : List Nat} {k w : Nat} {d : D} {ds : List D}
theorem T.ok (h : T S H k w d) (hk : k ≤ 30) : OkE H d := by
 obtain ⟨x, e, s⟩ := h
 exact ⟨x, e H Fm.refl 30 hk, s.lay, Nat.le_trans s.dep hk⟩
theorem Zj0 (h : T S H k w d) (hk : k ≤ 30) {s : Str} (hs : PyData.strOk s = true) (q : Q (.bl (isS d s)) H) : wE (eqD d (.str s) H) Q := by
 obtain ⟨x, e1, e2⟩ := (h.ok hk).dat
 refine ⟨_, _, Zg8 e1 ((Fine.str hs).dat (by omega) H), ?_⟩
 rw [Zpq e2]; exact q
theorem Zo8 (h : T S H k w d) (hk : k ≤ 30) {s : Str} (hs : PyData.strOk s = true) (q : Q (.bl (!isS d s)) H) : wE (neD d (.str s) H) Q := by
 obtain ⟨x, e1, e2⟩ := (h.ok hk).dat
 refine ⟨_, _, Zgd e1 ((Fine.str hs).dat (by omega) H), ?_⟩
 rw [Zpq e2]; exact q
theorem Zm5 (h : T S H k w d) (hk : k ≤ 30) (q : Q (.bl (isI d)) H) : wE (Zes [d] H) Q := by
 refine Zbc rfl ?_
 show wS (Zdl [some d] H) _
 unfold Zdl
 fail "g"
 refine Zgb ((h.ok hk).isi "int" rfl) ?_
 have two := (h.ok hk).isi "bool" rfl
 cases d <;> (fail "g"; try (refine Zgb two ?_; fail "g")) <;> exact q
theorem Zqu (h : T S H k w d) (hk : k ≤ 30) (q : Q (.bl (Zz5 d)) H) : wE (Zih [d, .ty "tuple"] H) Q := by
 refine Zgb ((h.ok hk).isi "tuple" rfl) ?_
 cases d <;> exact q
theorem Zxw (h : T S H k w d) (hk : k ≤ 30) (q : Q (.bl (isSt d)) H) : wE (Zih [d, .ty "str"] H) Q := by
 refine Zgb ((h.ok hk).isi "str" rfl) ?_
 cases d <;> exact q
theorem Zi6 {m : Int} (h : T S H k w d) (hk : k ≤ 30) (q : Q (.bl (Zd6 d m)) H) : wE (Zbb [d, .int m] H) Q := by
 refine Zbc rfl ?_
 show wS (Zbr [some d, some (.int m)] H) _
 unfold Zbr
 fail "g"
 refine Zm5 h hk ?_
 cases d with
 | int i =>
  unfold isI
  fail "g"
  refine ⟨fun z => ?_, fun z => ?_⟩
  ·fail "g"
   simpa [Zd6, z] using q
  ·fail "g"
   simpa [Zd6, z] using q
 | _ => unfold isI; fail "g"; exact q
theorem Zgx {m : Int} (h : T S H k w d) (hk : k ≤ 30) (q : Q (.bl (Zd6 d m)) H) : wE (Za0 [d, .int m] H) Q := by
 refine Zbc rfl ?_
 show wS (Zbu [some d, some (.int m)] H) _
 unfold Zbu
 fail "g"
 refine Zgb ((h.ok hk).isi "int" rfl) ?_
 have two := (h.ok hk).isi "bool" rfl
 cases d with
 | int i =>
  fail "g"
  refine ⟨fun z => ?_, fun z => ?_⟩
  ·fail "g"
   simpa [Zd6, z] using q
  ·fail "g"
   simpa [Zd6, z] using q
 | _ => fail "g"; exact q
end
theorem Zyy {xs : List D} {i : Nat} {d : D} (h : xs[i]? = some d) : atI xs (i : Int) = some d := Zdw h
theorem Zjc {ks : List D} {x : Int} (hk : ∀ d ∈ ks, Zbw d) (h : 1 ≤ Zbn x ∧ Zbn x ≤ ks.length) : atI ks (Zbn x - 1) = some (Zmk (!Zeq ks x)) := by
 have e : Zbn x - 1 = (((Zbn x).toNat - 1 : Nat) : Int) := by omega
 rw [e]
 refine Zdw ?_
 rw [Zxh hk (by omega)]
 unfold Zeq
 rw [Bool.not_not]
theorem Zvy {b : Bool} (q : Q (.bl (!b)) H) : wE (eqD (Zmk b) (.str "all") H) Q := by
 refine ⟨_, _, Zxd b false H, ?_⟩
 cases b <;> exact q
theorem Zmh {b : Bool} (q : Q (.bl b) H) : wE (neD (Zmk b) (.str "all") H) Q := by
 cases b
 ·exact ⟨_, _, rfl, q⟩
 ·exact ⟨_, _, rfl, q⟩
noncomputable def Zgs (ks : List D) (d : D) : Bool := match d with
 | .int n => decide (1 ≤ n) && decide (n ≤ (ks.length : Int)) && !Zeq ks n
 | _ => false
theorem Zl0 {S : List Nat} {k w : Nat} {d : D} {ks : List D} (hk : ∀ d ∈ ks, Zbw d) (h : T S H k w d) (h30 : k ≤ 30) (q : Q (.bl (Zgs ks d)) H) : wE (Zbz [.tup ks, .str "all", d] H) Q := by
 refine Zbc rfl ?_
 show wS (Zay [some (.tup ks), some (.str "all"), some d] H) _
 unfold Zay
 fail "g"
 refine Zm5 h h30 ?_
 cases d with
 | int i =>
  unfold isI
  fail "g"
  refine ⟨fun z => ?_, fun z => ?_⟩
  ·fail "g"
   refine ⟨fun y => ?_, fun y => ?_⟩
   ·have z' := of_decide_eq_true z
    have y' := of_decide_eq_true y
    have ea : Zbn i = i := by unfold Zbn; split <;> omega
    fail "g"
    rw [← ea]
    refine w_ixT (Zjc hk (by omega)) ?_
    fail "g"
    refine Zmh ?_
    fail "g"
    simpa [Zgs, z, y, ea] using q
   ·fail "g"
    simpa [Zgs, z, y] using q
  ·fail "g"
   simpa [Zgs, z] using q
 | _ => unfold isI; fail "g"; exact q
theorem Zoe {ks : List D} {ls : List Int} (hk : ∀ d ∈ ks, Zbw d) (h8 : ks.length ≤ 8) (h : R ks.length ls) (q : Q (Za7 (Zde ks ls)) H) : wE (Zgi [.tup ks, .str "all", Za7 ls] H) Q := by
 have hl := h.len
 refine Zbc rfl ?_
 show wS (Zdn [some (.tup ks), some (.str "all"), some (.tup (ls.map .int)), none] H) _
 unfold Zdn
 fail "g"
 rw [List.length_map]
 refine Zl4 (fun m σ H' => m ≤ ls.length ∧ H' = H ∧ (∀ x ∈ ls.drop m, Zeq ks x = true) ∧ σ = [some (.tup ks), some (.str "all"), some (.tup (ls.map .int)), some (.int (m : Int))]) (fun m σ H' ⟨i1, i2, i3, i4⟩ => ?_) 20 ls.length _ _ (by omega) ⟨Nat.le_refl _, rfl, by simp, rfl⟩
 subst i2 i4
 have fi : ∀ m : Nat, (∀ x ∈ ls.drop m, Zeq ks x = true) -> (∀ x, (ls.take m).getLast? = some x -> Zeq ks x = false) -> Zde ks ls = ls.take m := fun m h1 h2 => by
  have := Zkm ks (ls.take m) (ls.drop m) h1 h2
  rwa [List.take_append_drop] at this
 have done : Zde ks ls = ls.take m → Zr1 (fun σ1 H1 => wS (Zaf (Zaz (eSl (Zac 2) Zbq (Zbh (Zac 3)))) Zak σ1 H1) (fin Q)) (fin Q) .nx [some (.tup ks), some (.str "all"), some (.tup (ls.map .int)), some (.int (m : Int))] H' := fun e => by
  fail "g"
  rw [← List.map_take, ← e]
  exact q
 fail "g"
 refine ⟨fun z => ?_, fun z => ?_⟩
 ·have z := of_decide_eq_true z
  obtain ⟨m', rfl⟩ : ∃ m', m = m' + 1 := ⟨m - 1, by omega⟩
  have hm : m' < ls.length := by omega
  have hr := h.rg _ (List.getElem_mem hm)
  fail "g"
  rw [show ((m' + 1 : Nat) : Int) - 1 = (m' : Int) by omega]
  refine w_ixT (Zyy (d := .int ls[m']) (by simp [hm])) ?_
  fail "g"
  refine w_ixT (Zjc hk hr) ?_
  fail "g"
  refine Zvy ?_
  fail "g"
  rw [Bool.not_not]
  refine ⟨fun y => ⟨m', rfl, ?_⟩, fun y => ?_⟩
  ·refine w_seq (wS_of (by with_unfolding_all rfl) ?_)
   fail "g"
   refine ⟨by omega, rfl, fun x hx => ?_, ?_⟩
   ·rw [List.drop_eq_getElem_cons hm] at hx
    rcases List.mem_cons.mp hx with rfl | hx
    ·exact y
    ·exact i3 x hx
   ·show [some (D.tup ks), some (D.str "all"), some (D.tup (ls.map D.int)), some (D.int (((m' + 1 : Nat) : Int) - 1))] = _
    rw [show ((m' + 1 : Nat) : Int) - 1 = (m' : Int) by omega]
  ·refine done (fi _ i3 fun x hx => ?_)
   rw [List.take_succ_eq_append_getElem hm, List.getLast?_append] at hx
   simp at hx
   rw [← hx]; exact y
 ·have z := of_decide_eq_false z
  obtain rfl : m = 0 := by omega
  fail "g"
  rw [← List.map_take, ← fi 0 i3 (by simp)]
  exact q
variable {σ : SD} {H : HD} {Q : D -> HD -> Prop}
noncomputable def Zne : Option (List Int) -> D
 | none => .non
 | some ls => Za7 ls
theorem Zmo (ls : List Int) (x : Int) : ((ls.map PyData.int).any fun z => PyData.eqv z (.int x)) = decide (x ∈ ls) := by
 rw [Bool.eq_iff_iff, List.any_eq_true, decide_eq_true_iff]
 constructor
 ·rintro ⟨z, hz, e⟩
  obtain ⟨y, hy, rfl⟩ := List.mem_map.mp hz
  have : y = x := by simpa [PyData.eqv] using e
  subst this; exact hy
 ·intro h
  exact ⟨.int x, List.mem_map.mpr ⟨x, h, rfl⟩, by simp [PyData.eqv]⟩
theorem w_inZ {x : Int} {ls : List Int} (q : Q (.bl (decide (x ∈ ls))) H) : wE (inD (.int x) (.tup (ls.map .int)) H) Q := w_inT (.int x) (Zcb ls) (by omega) (by omega) (by rw [Zmo]; exact q)
theorem Zq2 {x : Int} {ls : List Int} (q : Q (.bl (!decide (x ∈ ls))) H) : wE (niD (.int x) (.tup (ls.map .int)) H) Q := w_niT (.int x) (Zcb ls) (by omega) (by omega) (by rw [Zmo]; exact q)
theorem Zpk {p r : Nat} {ds : List D} {xs : List PyData} {h : Nat} (f : Fines ds xs h) (hh : h < 30) (g1 : H[p]? = some (.lst ds)) (g2 : H[r]? = some (.lst [])) (q : Q (.bl (!ds.isEmpty)) H) : wE (neD (.ref p) (.ref r) H) Q :=
 ⟨_, _, Zgd (f.dat hh g1) (Fines.nil.dat (by omega : 0 < 30) g2), by
  have e : PyData.eqv (.list xs) (.list []) = ds.isEmpty := by
   cases ds with
   | nil => have := f.len; cases xs with | nil => rfl | cons a b => simp at this
   | cons d r => have := f.len; cases xs with | nil => simp at this | cons a b => simp [PyData.eqv, PyData.eqvAll]
  rw [e]; exact q⟩
theorem Zpy {xs : List D} (q : Q (.ref H.length) (H ++ [.lst xs])) : wE (Zhn [.tup xs] H) Q := ⟨_, _, rfl, q⟩
theorem Zjw {p : Nat} {xs : List D} (g : H[p]? = some (.lst xs)) (q : Q (.ref H.length) (H ++ [.lst xs])) : wE (Zhn [.ref p] H) Q := ⟨_, _, by simp [Zhn, Zlh, g], q⟩
theorem Zvq {p : Nat} {zs : List Int} (g : H[p]? = some (.lst (zs.map .int))) (hl : zs.length ≤ 60) (nd : (zs.map Zbn).Nodup) (q : Q (.ref H.length) (H ++ [.lst ((Zco zs).map .int)])) : wE (Zk1 [.ref p] H) Q := by
 refine ⟨_, _, ?_, q⟩
 unfold Zk1
 simp only [Zlh, g, Zb]
 have e : Zf7 (zs.map .int) = some zs := by
  clear g nd hl q
  induction zs with
  | nil => rfl
  | cons z r ih => simp [Zf7, ih]
 rw [e]
 simp only [Zb]
 exact if_pos ⟨by omega, nd⟩
theorem Zt4 {p : Nat} {zs : List Int} (g : H[p]? = some (.dci (zs.map fun x => (x, .bl true)))) (hl : zs.length ≤ 60) (nd : (zs.map Zbn).Nodup) (q : Q (.ref H.length) (H ++ [.lst ((Zco zs).map .int)])) : wE (Zho [.ref p] H) Q := by
 refine ⟨_, _, ?_, q⟩
 unfold Zho
 simp only [g]
 have e : (zs.map fun x => (x, D.bl true)).map (·.1) = zs := by rw [List.map_map]; exact List.map_id' zs
 rw [e]
 exact if_pos ⟨by simp; omega, nd⟩
theorem Zpr {ks : List D} {ls : List Int} (hk : ∀ d ∈ ks, Zbw d) (h8 : ks.length ≤ 8) (h : R ks.length ls) (q : ∀ H', Fm [] H H' -> Q (Za7 (Zde ks ls)) H') : wE (Zf2 [.tup ks, Za7 ls] H) Q := by
 have hl := h.len
 refine Zbc rfl ?_
 show wS (Zdj [some (.tup ks), some (.tup (ls.map .int)), none, none, none, none] H) _
 unfold Zdj
 fail "g"
 refine ⟨_, rfl, ?_⟩
 refine Zd7 (fun d t σ H' => ∃ (pre r fs : List Int) (z3 z4 z5 : Option D), ls = pre ++ r ∧ t = Zcv (pre.length : Int) (r.map .int) ∧ fs ++ Zde ks r = Zde ks ls ∧ fs.length ≤ pre.length ∧ H'[H.length]? = some (.lst (fs.map .int)) ∧ Fm [] H H' ∧ σ = [some (.tup ks), some (.tup (ls.map .int)), some (.ref H.length), z3, z4, z5]) (fun _ _ _ _ _ => Zjz) (fun d x t σ H1 ⟨pre, r, fs, z3, z4, z5, i1, i2, i3, i4, i5, i6, i7⟩ => ?_) (fun d σ H1 ⟨pre, r, fs, z3, z4, z5, i1, i2, i3, i4, i5, i6, i7⟩ => ?_) _ [] _ _ ⟨[], ls, [], _, _, _, rfl, rfl, rfl, Nat.le_refl _, last, Fm.app _, rfl⟩
 ·subst i7
  cases r with
  | nil => cases i2
  | cons l r =>
   obtain ⟨rfl, rfl⟩ := List.cons.inj (show x :: t = .tup [.int (pre.length : Int), .int l] :: Zcv ((pre.length : Int) + 1) (r.map .int) from i2)
   have lp : pre.length ≤ 8 := by rw [i1] at hl; simp at hl; omega
   have ed : (ls.map D.int).drop pre.length = (l :: r).map D.int := by rw [i1, ← List.map_drop, List.drop_left]
   fail "g"
   rw [ed]
   fail "g"
   refine Zd9 (fun d => match d with | .int x => !Zeq ks x | _ => true) (fun H' => H' = H1) (fun _ j => Zjz) _ (fun y hy H2 j => ?_) _ rfl fun H2 j => ?_
   ·obtain ⟨z, hz, rfl⟩ := List.mem_map.mp hy
    subst j
    have hr := h.rg z (by rw [i1]; exact List.mem_append_right _ hz)
    fail "g"
    refine w_ixT (Zjc hk hr) ?_
    fail "g"
    refine Zmh ?_
    exact ⟨_, rfl, rfl, rfl⟩
   ·subst j
    have ef : (((l :: r).map D.int).filter fun d => match d with | .int x => !Zeq ks x | _ => true) = ((l :: r).filter fun x => !Zeq ks x).map .int := by
     rw [List.filter_map]
     rfl
    rw [ef]
    refine ⟨by have := List.length_filter_le (fun x => !Zeq ks x) (l :: r); rw [i1] at hl; simp at hl this ⊢; omega, ?_⟩
    have tl : Zcv ((pre.length : Int) + 1) (r.map .int) = Zcv (((pre ++ [l]).length : Nat) : Int) (r.map .int) := by simp
    have hn : H.length ≠ H2.length := by have := (List.getElem?_eq_some_iff.mp i5).1; omega
    fail "i"
    refine Zpk (p := H2.length) (Zcb ((l :: r).filter fun x => !Zeq ks x)) (by omega) (appL last) last ?_
    fail "g"
    refine ⟨fun z => ?_, fun z => ?_⟩
    ·have hn : ¬ ((l :: r).all (Zeq ks) = true) := fun y => by
      have : ((l :: r).filter fun x => !Zeq ks x) = [] := List.filter_eq_nil_iff.mpr fun a ha => by rw [List.all_eq_true.mp y a ha]; simp
      rw [this] at z; cases z
     fail "g"
     refine ⟨isl (appL (appL i5)), ?_⟩
     fail "g"
     refine Zha (appL (appL i5)) (by simp; omega) ?_
     fail "g"
     refine ⟨pre ++ [l], r, fs ++ [l], _, _, _, by rw [i1]; simp, tl, ?_, by simp; omega, by rw [Zrg (appL (appL i5))]; simp, ?_, rfl⟩
     ·rw [← i3]
      conv => rhs; rw [Zde, if_neg hn]
      simp
     ·exact ((i6.trans (Fm.app _)).trans (Fm.app _)).new (Fm.set (S := [H.length]) (by simp)) (fun q hq _ => by simp at hq; subst hq; exact Nat.le_refl _)
    ·have hn : (l :: r).all (Zeq ks) = true := by
      rw [List.all_eq_true]
      intro a ha
      cases y : Zeq ks a with
      | true => rfl
      | false =>
       have : a ∈ (l :: r).filter fun x => !Zeq ks x := List.mem_filter.mpr ⟨ha, by rw [y]; rfl⟩
       cases w : (l :: r).filter fun x => !Zeq ks x with
       | nil => rw [w] at this; cases this
       | cons b bs => rw [w] at z; cases z
     fail "g"
     refine ⟨pre ++ [l], r, fs, _, _, _, by rw [i1]; simp, tl, ?_, by simp; omega, appL (appL i5), (i6.trans (Fm.app _)).trans (Fm.app _), rfl⟩
     rw [← i3]
     conv => rhs; rw [Zde, if_pos hn]
     rw [Zlf ks r fun x hx => List.all_eq_true.mp hn x (by simp [hx])]
 ·subst i7
  cases r with
  | cons l r => cases i2
  | nil =>
   fail "g"
   have e : fs = Zde ks ls := by rw [← i3]; exact (List.append_nil fs).symm
   rw [e]
   exact q _ i6
variable {σ : SD} {H : HD} {Q : D -> HD -> Prop}
noncomputable def Zkh (a b : List Int) : Option (List Int) := if b.any (fun x => decide (-x ∈ a)) = true then none else some (Zco (a ++ b.filter fun x => decide (x ∉ a)))
theorem Zit (a b : List Int) (n : Int) (h : n ∈ a ∧ -n ∈ b) : Zeb a b n = Zkh (a.filter fun x => decide (x ≠ n)) (b.filter fun x => decide (x ≠ -n)) := by
 unfold Zeb Zkh
 rw [if_neg (by simp [h.1, h.2])]
theorem Zko {a : List Int} {n : Int} (hl : a.length ≤ 1000) (q : ∀ H', Fm [] H H' -> Q (Za7 (a.filter fun x => decide (x ≠ n))) H') : wE (Zft [Za7 a, .int n] H) Q := by
 refine Zbc rfl ?_
 show wS (Zeh [some (.tup (a.map .int)), some (.int n)] H) _
 unfold Zeh
 fail "g"
 refine Zd9 (fun d => match d with | .int x => decide (x ≠ n) | _ => true) (fun H' => H' = H) (fun _ j => Zjz) _ (fun y hy H2 j => ?_) _ rfl fun H2 j => ?_
 ·obtain ⟨z, hz, rfl⟩ := List.mem_map.mp hy
  subst j
  fail "g"
  refine ⟨?_, rfl⟩
  by_cases e : z = n <;> simp [e]
 ·subst j
  have ef : ((a.map D.int).filter fun d => match d with | .int x => decide (x ≠ n) | _ => true) = (a.filter fun x => decide (x ≠ n)).map .int := by
   rw [List.filter_map]
   rfl
  rw [ef]
  refine ⟨by have := List.length_filter_le (fun x => decide (x ≠ n)) a; simp at this ⊢; omega, ?_⟩
  fail "g"
  exact q _ (Fm.app _)
theorem Ya7 {M : Nat} {a b : List Int} (ha : R M a) (hb : R M b) (hM : M ≤ 8) (q : ∀ H', Fm [] H H' -> Q (Zne (Zkh a b)) H') : wE (Zrs [Za7 a, Za7 b] H) Q := by
 have la := ha.len
 have lb := hb.len
 refine Zbc rfl ?_
 show wS (Zld [some (.tup (a.map .int)), some (.tup (b.map .int)), none, none] H) _
 unfold Zld
 fail "g"
 refine Zpy ?_
 fail "g"
 refine Zd7 (fun d t σ H' => ∃ (pre r : List Int) (z3 : Option D), b = pre ++ r ∧ t = r.map .int ∧ pre.any (fun x => decide (-x ∈ a)) = false ∧ H'[H.length]? = some (.lst ((a ++ pre.filter fun x => decide (x ∉ a)).map .int)) ∧ Fm [] H H' ∧ σ = [some (.tup (a.map .int)), some (.tup (b.map .int)), some (.ref H.length), z3]) (fun _ _ _ _ _ => Zjz) (fun d x t σ H1 ⟨pre, r, z3, i1, i2, i3, i4, i5, i6⟩ => ?_) (fun d σ H1 ⟨pre, r, z3, i1, i2, i3, i4, i5, i6⟩ => ?_) _ [] _ _ ⟨[], b, _, rfl, rfl, rfl, by simp, Fm.app _, rfl⟩
 ·subst i6
  cases r with
  | nil => cases i2
  | cons l r =>
   obtain ⟨rfl, rfl⟩ := List.cons.inj i2
   fail "i"
   refine w_inZ ?_
   fail "g"
   refine ⟨fun z => ?_, fun z => ?_⟩
   ·fail "g"
    have : Zne (Zkh a b) = .non := by
     unfold Zkh
     rw [if_pos (by rw [i1]; simp at z; simp [z])]; rfl
    rw [← this]
    exact q _ i5
   ·fail "i"
    refine Zq2 ?_
    fail "g"
    have an : (pre ++ [l]).any (fun x => decide (-x ∈ a)) = false := by rw [List.any_append, i3]; simp at z ⊢; exact z
    have lp : pre.length ≤ 8 := by rw [i1] at lb; simp at lb; omega
    refine ⟨fun y => ?_, fun y => ?_⟩
    ·fail "g"
     refine ⟨isl i4, ?_⟩
     fail "g"
     refine Zha i4 (by have := List.length_filter_le (fun x => decide (x ∉ a)) pre; simp at this ⊢; omega) ?_
     fail "g"
     refine ⟨pre ++ [l], r, _, by rw [i1]; simp, rfl, an, ?_, i5.new (Fm.set (S := [H.length]) (by simp)) (fun q hq _ => by simp at hq; subst hq; exact Nat.le_refl _), rfl⟩
     rw [Zrg i4]
     have y : l ∉ a := by simpa using y
     simp [List.filter_append, y]
    ·fail "g"
     refine ⟨pre ++ [l], r, _, by rw [i1]; simp, rfl, an, ?_, i5, rfl⟩
     rw [i4]
     have y : l ∈ a := by simpa using y
     simp [List.filter_append, y]
 ·subst i6
  cases r with
  | cons l r => cases i2
  | nil =>
   rw [List.append_nil] at i1
   subst i1
   fail "g"
   have hj := R.join0 ha hb i3
   refine Zvq i4 (by have := hj.len; omega) hj.nd ?_
   fail "g"
   have : Zne (Zkh a b) = .tup ((Zco (a ++ b.filter fun x => decide (x ∉ a))).map .int) := by
    unfold Zkh
    rw [if_neg (by rw [i3]; simp)]; rfl
   rw [← this]
   exact q _ (i5.trans (Fm.app _))
theorem Ztp {M : Nat} {a b : List Int} {n : Int} (ha : R M a) (hb : R M b) (hM : M ≤ 8) (q : ∀ H', Fm [] H H' -> Q (Zne (Zeb a b n)) H') : wE (Zjs [Za7 a, Za7 b, .int n] H) Q := by
 have la := ha.len
 have lb := hb.len
 refine Zbc rfl ?_
 show wS (Zfj [some (.tup (a.map .int)), some (.tup (b.map .int)), some (.int n)] H) _
 unfold Zfj
 have no : (n ∉ a ∨ -n ∉ b) -> Q .non H := fun h => by
  have e : Zne (Zeb a b n) = .non := by unfold Zeb; rw [if_pos h]; rfl
  rw [← e]; exact q _ Fm.refl
 fail "i"
 refine Zq2 ?_
 fail "g"
 refine ⟨fun z => ?_, fun z => ?_⟩
 ·fail "g"
  exact no (.inl (by simpa using z))
 ·fail "g"
  refine Zq2 ?_
  fail "g"
  refine ⟨fun y => ?_, fun y => ?_⟩
  ·fail "g"
   exact no (.inr (by simpa using y))
  ·fail "g"
   have h : n ∈ a ∧ -n ∈ b := ⟨by simpa using z, by simpa using y⟩
   refine Zko (a := a) (by omega) fun H1 x1 => ?_
   fail "g"
   refine Zko (a := b) (by omega) fun H2 x2 => ?_
   fail "g"
   refine Ya7 (ha.sub List.filter_sublist) (hb.sub List.filter_sublist) hM fun H3 x3 => ?_
   rw [← Zit a b n h]
   fail "g"
   exact q _ ((x1.trans x2).trans x3)
noncomputable def Zfm (n : Int) : List Int -> List Int -> Option (List Int)
 | zs, [] => some zs
 | zs, x :: r => if Zbn x = n then Zfm n zs r else if -x ∈ zs then none else Zfm n (if x ∈ zs then zs else zs ++ [x]) r
theorem Zt9 {M : Nat} {a : List Int} {n : Int} (ha : R M a) (h1 : 1 ≤ n) (hn : n ∈ a) (b : List Int) : ∀ (a2 a1 : List Int), a = a1 ++ a2 -> Zfm n (a1.filter fun x => decide (x ≠ n)) (a2 ++ b) = Zfm n (a.filter fun x => decide (x ≠ n)) b
 | [], a1, e => by rw [List.append_nil] at e; subst e; rfl
 | x :: a2, a1, e => by
  have en : Zbn n = n := by unfold Zbn; split <;> omega
  have hx : x ∈ a := by rw [e]; simp
  have e' : a = (a1 ++ [x]) ++ a2 := by rw [e]; simp
  have ih := Zt9 ha h1 hn b a2 (a1 ++ [x]) e'
  rw [List.cons_append, Zfm]
  rw [List.filter_append] at ih
  split
  ·rename_i z
   have : x = n := ha.inj hx hn (by rw [z, en])
   simpa [this] using ih
  ·rename_i z
   have xn : x ≠ n := fun y => z (by rw [y]; exact en)
   have s1 : ∀ y, y ∈ a1.filter (fun x => decide (x ≠ n)) -> y ∈ a := fun y hy => by rw [e]; exact List.mem_append_left _ (List.mem_filter.mp hy).1
   rw [if_neg (fun y => by
    have := ha.inj (s1 _ y) hx (Zju x)
    have := (ha.rg x hx).1
    unfold Zbn at this
    split at this <;> omega)]
   rw [if_neg (fun y => by
    have nd := ha.nd
    rw [e, List.map_append, List.nodup_append] at nd
    exact nd.2.2 (Zbn x) (List.mem_map.mpr ⟨x, (List.mem_filter.mp y).1, rfl⟩) (Zbn x) (by simp) rfl)]
   simpa [xn] using ih
theorem Zvh {M : Nat} {a b : List Int} {n : Int} (hb : R M b) (h1 : 1 ≤ n) (hn : -n ∈ b) : ∀ (b2 b1 : List Int), b = b1 ++ b2 →
  Zfm n (a ++ (b1.filter fun x => decide (x ≠ -n)).filter fun x => decide (x ∉ a)) b2 = if (b2.filter fun x => decide (x ≠ -n)).any (fun x => decide (-x ∈ a)) = true then none else some (a ++ (b.filter fun x => decide (x ≠ -n)).filter fun x => decide (x ∉ a))
 | [], b1, e => by rw [List.append_nil] at e; subst e; rfl
 | x :: b2, b1, e => by
  have en : Zbn (-n) = n := by unfold Zbn; split <;> omega
  have hx : x ∈ b := by rw [e]; simp
  have e' : b = (b1 ++ [x]) ++ b2 := by rw [e]; simp
  have ih := Zvh (a := a) hb h1 hn b2 (b1 ++ [x]) e'
  rw [Zfm]
  rw [List.filter_append, List.filter_append] at ih
  split
  ·rename_i z
   have : x = -n := hb.inj hx hn (by rw [z, en])
   simpa [this] using ih
  ·rename_i z
   have xn : x ≠ -n := fun y => z (by rw [y]; exact en)
   have s1 : ∀ y, y ∈ (b1.filter fun x => decide (x ≠ -n)).filter (fun x => decide (x ∉ a)) -> y ∈ b1 := fun y hy => (List.mem_filter.mp (List.mem_filter.mp hy).1).1
   have c1 : (-x ∈ a ++ (b1.filter fun x => decide (x ≠ -n)).filter fun x => decide (x ∉ a)) ↔ -x ∈ a := by
    rw [List.mem_append]
    refine ⟨fun y => y.elim id fun y => ?_, .inl⟩
    have := hb.inj (by rw [e]; exact List.mem_append_left _ (s1 _ y)) hx (Zju x)
    have := (hb.rg x hx).1
    unfold Zbn at this
    split at this <;> omega
   have c2 : (x ∈ a ++ (b1.filter fun x => decide (x ≠ -n)).filter fun x => decide (x ∉ a)) ↔ x ∈ a := by
    rw [List.mem_append]
    refine ⟨fun y => y.elim id fun y => ?_, .inl⟩
    have nd := hb.nd
    rw [e, List.map_append, List.nodup_append] at nd
    exact absurd rfl (nd.2.2 (Zbn x) (List.mem_map.mpr ⟨x, s1 _ y, rfl⟩) (Zbn x) (by simp))
   by_cases y : -x ∈ a
   ·rw [if_pos (c1.mpr y), if_pos (by simp [xn, y])]
   ·rw [if_neg (fun w => y (c1.mp w))]
    by_cases w : x ∈ a
    ·rw [if_pos (c2.mpr w)]
     simpa [xn, y, w] using ih
    ·rw [if_neg (fun v => w (c2.mp v))]
     simpa [xn, y, w] using ih
theorem Zpw {M : Nat} {a b : List Int} {n : Int} (ha : R M a) (hb : R M b) (h1 : 1 ≤ n) (hn : n ∈ a) (hm : -n ∈ b) : (Zfm n [] (a ++ b)).map Zco = Zeb a b n := by
 have e1 := Zt9 ha h1 hn b a [] rfl
 have e2 := Zvh (a := a.filter fun x => decide (x ≠ n)) hb h1 hm b [] rfl
 rw [show ([] : List Int).filter (fun x => decide (x ≠ n)) = [] from rfl] at e1
 rw [e1]
 rw [show (([] : List Int).filter (fun x => decide (x ≠ -n))).filter (fun x => decide (x ∉ a.filter fun x => decide (x ≠ n))) = [] from rfl, List.append_nil] at e2
 rw [e2]
 rw [Zit a b n ⟨hn, hm⟩]
 unfold Zkh
 split <;> rfl
theorem Zl7 {M : Nat} {n : Int} : ∀ (xs zs : List Int), (∀ x ∈ xs, 1 ≤ Zbn x ∧ Zbn x ≤ M) -> R M zs -> ∀ ys, Zfm n zs xs = some ys -> R M ys
 | [], zs, _, hz, ys, e => by cases e; exact hz
 | x :: r, zs, hx, hz, ys, e => by
  rw [Zfm] at e
  split at e
  ·exact Zl7 r zs (fun y hy => hx y (by simp [hy])) hz ys e
  ·split at e
   ·cases e
   ·rename_i h1 h2
    refine Zl7 r _ (fun y hy => hx y (by simp [hy])) ?_ ys e
    split
    ·exact hz
    ·rename_i h3
     refine ⟨?_, fun y hy => ?_⟩
     ·rw [List.map_append, List.nodup_append]
      refine ⟨hz.nd, by simp, fun u hu v hv e => ?_⟩
      obtain ⟨y, hy, rfl⟩ := List.mem_map.mp hu
      simp at hv
      subst hv
      rcases Zp8 e with z | z
      ·exact h3 (z ▸ hy)
      ·exact h2 (z ▸ hy)
     ·rcases List.mem_append.mp hy with z | z
      ·exact hz.rg y z
      ·simp at z; subst z; exact hx y (by simp)
variable {σ : SD} {H : HD} {Q : D -> HD -> Prop}
noncomputable def kvT (x : Int) : Int × D := (x, .bl true)
theorem Zqg (k : Int) : ∀ zs : List Int, (Zj6 (zs.map kvT) k).isSome = decide (k ∈ zs)
 | [] => rfl
 | z :: r => by
  have ih := Zqg k r
  unfold Zj6 at ih ⊢
  rw [List.map_cons]
  by_cases e : z = k
  ·subst e
   rw [List.find?_cons_of_pos (by simp [kvT])]
   simp
  ·rw [List.find?_cons_of_neg (by simp [kvT, e]), ih]
   have : ¬ k = z := fun w => e w.symm
   simp [this]
theorem Zz1 (k : Int) (zs : List Int) : Zr2 (zs.map kvT) k (.bl true) = (if k ∈ zs then zs else zs ++ [k]).map kvT := by
 unfold Zr2
 by_cases h : k ∈ zs
 ·rw [if_pos (by rw [List.any_map, List.any_eq_true]; exact ⟨k, h, by simp [kvT]⟩), if_pos h, List.map_map]
  refine List.map_congr_left fun x _ => ?_
  show (if x = k then (x, D.bl true) else kvT x) = kvT x
  split <;> rfl
 ·have hn : ¬ ((zs.map kvT).any (fun p => decide (p.1 = k)) = true) := by
   rw [List.any_map, List.any_eq_true]
   rintro ⟨x, hx, e⟩
   have e : x = k := of_decide_eq_true e
   subst e
   exact h hx
  rw [if_neg hn, if_neg h, List.map_append]
  rfl
theorem w_iin {n : Nat} {kvs : List (Int × D)} {k : Int} (g : H[n]? = some (.dci kvs)) (q : Q (.bl (Zj6 kvs k).isSome) H) : wE (iinD (.int k) (.ref n) H) Q := ⟨_, _, by simp [iinD, dciD, g], q⟩
theorem Zyi {n : Nat} {kvs : List (Int × D)} {k : Int} {v : D} {Z : HD -> Prop} (g : H[n]? = some (.dci kvs)) (h : kvs.length ≤ 1000) (q : Z (H.set n (.dci (Zr2 kvs k v)))) : wH (Zrl (.ref n) (.int k) v H) Z := by
 refine ⟨_, ?_, q⟩
 have sz := sizeLine_eq
 simp only [Zrl, g]
 exact if_pos (by omega)
theorem w_edi (q : Q (.ref H.length) (H ++ [.dci []])) : wE (eDI σ H) Q := ⟨_, _, rfl, q⟩
theorem Zh4 {M : Nat} {a b : List Int} {n : Int} (ha : R M a) (hb : R M b) (hM : M ≤ 8) (h1 : 1 ≤ n) (q : ∀ H', Fm [] H H' -> Q (Zne (Zeb a b n)) H') : wE (Zc4 [Za7 a, Za7 b, .int n] H) Q := by
 have la := ha.len
 have lb := hb.len
 refine Zbc rfl ?_
 show wS (Zcc [some (.tup (a.map .int)), some (.tup (b.map .int)), some (.int n), none, none] H) _
 unfold Zcc
 have no : (n ∉ a ∨ -n ∉ b) -> Q .non H := fun h => by
  have e : Zne (Zeb a b n) = .non := by unfold Zeb; rw [if_pos h]; rfl
  rw [← e]; exact q _ Fm.refl
 fail "i"
 refine Zq2 ?_
 fail "g"
 refine ⟨fun z => ?_, fun z => ?_⟩
 ·fail "g"
  exact no (.inl (by simpa using z))
 fail "g"
 refine Zq2 ?_
 fail "g"
 refine ⟨fun y => ?_, fun y => ?_⟩
 ·fail "g"
  exact no (.inr (by simpa using y))
 fail "g"
 refine w_edi ?_
 have hn : n ∈ a := by simpa using z
 have hm : -n ∈ b := by simpa using y
 have fj := Zpw ha hb h1 hn hm
 fail "g"
 rw [← List.map_append]
 refine Zd7 (fun d t σ H' => ∃ (pre r zs : List Int) (z4 : Option D), a ++ b = pre ++ r ∧ t = r.map .int ∧ Zfm n zs r = Zfm n [] (a ++ b) ∧ R M zs ∧ H'[H.length]? = some (.dci (zs.map kvT)) ∧ Fm [] H H' ∧ σ = [some (.tup (a.map .int)), some (.tup (b.map .int)), some (.int n), some (.ref H.length), z4]) (fun _ _ _ _ _ => Zjz) (fun d x t σ H1 ⟨pre, r, zs, z4, i1, i2, i3, i4, i5, i6, i7⟩ => ?_) (fun d σ H1 ⟨pre, r, zs, z4, i1, i2, i3, i4, i5, i6, i7⟩ => ?_) _ [] _ _ ⟨[], a ++ b, [], _, rfl, rfl, rfl, ⟨.nil, by simp⟩, last, Fm.app _, rfl⟩
 ·subst i7
  cases r with
  | nil => cases i2
  | cons l r =>
   obtain ⟨rfl, rfl⟩ := List.cons.inj i2
   have hl : 1 ≤ Zbn l ∧ Zbn l ≤ M := by
    have : l ∈ a ++ b := by rw [i1]; simp
    rcases List.mem_append.mp this with w | w
    ·exact ha.rg l w
    ·exact hb.rg l w
   have i1' : a ++ b = (pre ++ [l]) ++ r := by rw [i1]; simp
   rw [Zfm] at i3
   fail "i"
   fail "g"
   refine ⟨fun w => ?_, fun w => ?_⟩
   ·have w : Zbn l ≠ n := by simpa using w
    rw [if_neg w] at i3
    fail "i"
    refine w_iin i5 ?_
    rw [Zqg]
    fail "g"
    refine ⟨fun v => ?_, fun v => ?_⟩
    ·fail "g"
     rw [if_pos (of_decide_eq_true v)] at i3
     rw [← i3] at fj
     have e : Zne (Zeb a b n) = .non := by rw [← fj]; rfl
     rw [← e]; exact q _ i6
    ·fail "g"
     rw [if_neg (of_decide_eq_false v)] at i3
     refine Zyi i5 (by have := i4.len; simp; omega) ?_
     rw [Zz1]
     fail "g"
     refine ⟨pre ++ [l], r, _, _, i1', rfl, i3, ?_, Zrg i5, i6.new (Fm.set (S := [H.length]) (by simp)) (fun q hq _ => by simp at hq; subst hq; exact Nat.le_refl _), rfl⟩
     have := Zl7 (M := M) (n := n) [l] zs (by simpa using hl) i4 (if l ∈ zs then zs else zs ++ [l]) (by rw [Zfm, if_neg w, if_neg (of_decide_eq_false v)]; rfl)
     exact this
   ·have w : Zbn l = n := by simpa using w
    rw [if_pos w] at i3
    fail "g"
    exact ⟨pre ++ [l], r, zs, _, i1', rfl, i3, i4, i5, i6, rfl⟩
 ·subst i7
  cases r with
  | cons l r => cases i2
  | nil =>
   rw [← i3] at fj
   have e : Zne (Zeb a b n) = .tup ((Zco zs).map .int) := by rw [← fj]; rfl
   fail "g"
   refine Zt4 i5 (by have := i4.len; omega) i4.nd ?_
   fail "g"
   rw [← e]
   exact q _ (i6.trans (Fm.app _))
noncomputable def nms (ks : List D) : List Int := ((List.range ks.length).map fun k : Nat => (k : Int) + 1).filter fun n => !Zeq ks n
theorem Zl2 {ks : List D} {n : Int} : n ∈ nms ks ↔ 1 ≤ n ∧ n ≤ ks.length ∧ Zeq ks n = false := by
 unfold nms
 rw [List.mem_filter, List.mem_map]
 constructor
 ·rintro ⟨⟨k, hk, rfl⟩, h⟩
  rw [List.mem_range] at hk
  exact ⟨by omega, by omega, by simpa using h⟩
 ·rintro ⟨h1, h2, h3⟩
  exact ⟨⟨(n - 1).toNat, by rw [List.mem_range]; omega, by omega⟩, by rw [h3]; rfl⟩
theorem Zq9 {ks : List D} {rss : List (List Int)} (hk : ∀ d ∈ ks, Zbw d) (h8 : ks.length ≤ 8) (q : Q (.ref H.length) (H ++ [.lst ((nms ks).map .int)])) :
  wE (eLC (iR1 (Zaa (eCB Zbv (Zaa (eOp ixD (Zac 0) (eC (.int 0))) Zae)) Zae)) [0] (tOf (eOp neD (eOp ixD (eOp ixD (Zac 1) (eC (.int 0))) (Zac 0)) (eC (.str "all")))) (eOp Zbg (Zac 0) (eC (.int 1))) (some (Zaj ks rss) :: σ) H) Q := by
 fail "g"
 refine ⟨_, rfl, ⟨by omega, by omega⟩, ?_⟩
 rw [Int.toNat_natCast]
 have ab : ∀ k : Nat, Zbn ((k : Int) + 1) = (k : Int) + 1 := fun k => by unfold Zbn; split <;> omega
 refine Zww (fun d => match d with | .int k => !Zeq ks (k + 1) | _ => false) (fun d => match d with | .int k => .int (k + 1) | d => d) (fun H' => H' = H) (fun _ j => Zjz) _ (fun y hy H2 j => ?_) (fun y hy _ H2 j => ?_) _ rfl fun H2 j => ?_
 ·simp only [Zar, List.mem_map, List.mem_range] at hy
  obtain ⟨k, hk', rfl⟩ := hy
  rw [Int.zero_add]
  subst j
  show wT (tOf _ (some (.int (k : Int)) :: [some (Zaj ks rss)]) H2) _
  fail "g"
  have e := Zjc (x := (k : Int) + 1) hk (by rw [ab]; omega)
  rw [ab, show (k : Int) + 1 - 1 = k by omega] at e
  refine w_ixT e ?_
  fail "g"
  refine Zmh ?_
  exact ⟨_, rfl, rfl, rfl⟩
 ·simp only [Zar, List.mem_map, List.mem_range] at hy
  obtain ⟨k, hk', rfl⟩ := hy
  subst j
  show wE (eOp Zbg (Zac 0) (eC (.int 1)) (some (.int (0 + (k : Int))) :: [some (Zaj ks rss)]) H2) _
  fail "g"
  exact ⟨rfl, rfl⟩
 ·subst j
  have ef : ((Zar 0 ks.length).filter fun d => match d with | .int k => !Zeq ks (k + 1) | _ => false).map (fun d => match d with | .int k => .int (k + 1) | d => d) = (nms ks).map D.int := by
   unfold Zar nms
   rw [List.filter_map, List.map_map, List.filter_map, List.map_map]
   simp only [Function.comp_def, Int.zero_add]
  rw [ef]
  refine ⟨?_, q⟩
  have := List.length_filter_le (fun n => !Zeq ks n) ((List.range ks.length).map fun k : Nat => (k : Int) + 1)
  unfold nms
  simp at this ⊢
  omega
variable {σ : SD} {H : HD} {Q : D -> HD -> Prop}
theorem Zhf {d : D} {s : Str} (h : isS d s = true) : d = .str s := by
 cases d with
 | str a => rw [eq_of_beq (show (a == s) = true from h)]
 | _ => cases h
theorem Zja {s : Str} : isS (.str s) s = true := beq_self_eq_true s
theorem Zb1 {b : D} {m : Nat} (h : Zd6 b m = true) : ∃ i : Nat, b = .int i ∧ i < m := by
 cases b with
 | int i =>
  rw [show Zd6 (.int i) m = (decide (0 ≤ i) && decide (i < (m : Int))) from rfl, Bool.and_eq_true, decide_eq_true_iff, decide_eq_true_iff] at h
  exact ⟨i.toNat, by rw [Int.toNat_of_nonneg h.1], by omega⟩
 | _ => cases h
theorem Ziu {i : Int} {m : Nat} (h : Zd6 (.int i) m = false) : ¬ (0 ≤ i ∧ i < m) := by
 rintro ⟨h1, h2⟩
 rw [show Zd6 (.int i) m = (decide (0 ≤ i) && decide (i < (m : Int))) from rfl, decide_eq_true h1, decide_eq_true h2] at h
 cases h
theorem Zn8 {ks : List D} {d : D} (h : Zgs ks d = true) : ∃ n, d = .int n ∧ (1 ≤ n ∧ n ≤ ks.length) ∧ Zeq ks n = false := by
 cases d with
 | int n =>
  rw [show Zgs ks (.int n) = (decide (1 ≤ n) && decide (n ≤ (ks.length : Int)) && !Zeq ks n) from rfl, Bool.and_eq_true, Bool.and_eq_true, decide_eq_true_iff, decide_eq_true_iff] at h
  exact ⟨n, rfl, h.1, by simpa using h.2⟩
 | _ => cases h
section
variable {ks : List D} {rss made : List (List Int)} {a b c e : D} {r : List D}
theorem Zdz (h2 : ∀ s i, r ≠ [.str s, .int i]) (h4 : ∀ s i j n, r ≠ [.str s, .int i, .int j, .int n]) : stp ks rss made (.tup r) = none := by
 unfold stp
 split
 ·rename_i e; exact absurd (D.tup.inj e) (h2 _ _)
 ·rename_i e; exact absurd (D.tup.inj e) (h4 _ _ _ _)
 ·rfl
theorem Zgc {s : Str} {i : Int} : stp ks rss made (.tup [.str s, .int i]) = if s = "less" then (if 0 ≤ i ∧ i < made.length then some (Zde ks (made.getD i.toNat [])) else none)
  else if s = "row" then (if 0 ≤ i ∧ i < rss.length then some (rss.getD i.toNat []) else none) else none := rfl
theorem Zgw {s : Str} {i j n : Int} : stp ks rss made (.tup [.str s, .int i, .int j, .int n]) = if s = "joined" ∧ (0 ≤ i ∧ i < made.length) ∧ (0 ≤ j ∧ j < made.length) ∧ (1 ≤ n ∧ n ≤ ks.length) ∧ Zeq ks n = false then Zeb (made.getD i.toNat []) (made.getD j.toNat []) n else none := rfl
theorem jl : ¬ (("joined" : Str) = "less") := by decide
theorem lj : ¬ (("less" : Str) = "joined") := by decide
theorem lr : ¬ (("row" : Str) = "less") := by decide
theorem rj : ¬ (("row" : Str) = "joined") := by decide
theorem Zt7 (hl : r.length ≠ 1) : stp ks rss made (.tup (.str "less" :: r)) = none := by
 by_cases h : ∃ s i j n, (.str "less" :: r) = [.str s, .int i, .int j, .int n]
 ·obtain ⟨s, i, j, n, h⟩ := h
  rw [h, Zgw]
  have : s = "less" := by have := (List.cons.inj h).1; cases this; rfl
  rw [if_neg (fun z => lj (this ▸ z.1))]
 ·exact Zdz (fun s i z => hl (by have := (List.cons.inj z).2; rw [this]; rfl)) (fun s i j n z => h ⟨s, i, j, n, z⟩)
theorem Zub (hb : Zd6 b made.length = false) : stp ks rss made (.tup [.str "less", b]) = none := by
 cases b with
 | int i => rw [Zgc, if_pos rfl, if_neg (Ziu hb)]
 | _ => exact Zdz (by intro s i z; cases z) (by intro s i j n z; cases z)
theorem Zmz {i : Nat} (hi : i < made.length) : stp ks rss made (.tup [.str "less", .int i]) = some (Zde ks made[i]) := by
 rw [Zgc, if_pos rfl, if_pos ⟨by omega, by omega⟩, Int.toNat_natCast]
 simp [hi]
theorem Zug (hl : r.length ≠ 3) : stp ks rss made (.tup (.str "joined" :: r)) = none := by
 by_cases h : ∃ s i, (.str "joined" :: r) = [.str s, .int i]
 ·obtain ⟨s, i, h⟩ := h
  have : s = "joined" := by have := (List.cons.inj h).1; cases this; rfl
  subst this
  rw [h, Zgc, if_neg jl, if_neg (fun z => rj z.symm)]
 ·exact Zdz (fun s i z => h ⟨s, i, z⟩) (fun s i j n z => hl (by have := (List.cons.inj z).2; rw [this]; rfl))
theorem Zur (h : (Zd6 b made.length && Zd6 c made.length && Zgs ks e) = false) : stp ks rss made (.tup [.str "joined", b, c, e]) = none := by
 by_cases h3 : ∃ i j n, b = .int i ∧ c = .int j ∧ e = .int n
 ·obtain ⟨i, j, n, rfl, rfl, rfl⟩ := h3
  rw [Zgw, if_neg]
  rintro ⟨_, z1, z2, z3, z4⟩
  have e1 : Zd6 (.int i) made.length = true := by show (decide (0 ≤ i) && decide (i < (made.length : Int))) = true; rw [decide_eq_true z1.1, decide_eq_true z1.2]; rfl
  have e2 : Zd6 (.int j) made.length = true := by show (decide (0 ≤ j) && decide (j < (made.length : Int))) = true; rw [decide_eq_true z2.1, decide_eq_true z2.2]; rfl
  have e3 : Zgs ks (.int n) = true := by show (decide (1 ≤ n) && decide (n ≤ (ks.length : Int)) && !Zeq ks n) = true; rw [decide_eq_true z3.1, decide_eq_true z3.2, z4]; rfl
  rw [e1, e2, e3] at h; cases h
 ·exact Zdz (by rintro s i z; cases z) (fun s i j n z => h3 (by cases z; exact ⟨i, j, n, rfl, rfl, rfl⟩))
theorem Zpe {i j : Nat} {n : Int} (hi : i < made.length) (hj : j < made.length) (hn : 1 ≤ n ∧ n ≤ ks.length) (ho : Zeq ks n = false) : stp ks rss made (.tup [.str "joined", .int i, .int j, .int n]) = Zeb made[i] made[j] n := by
 rw [Zgw, if_pos ⟨rfl, ⟨by omega, by omega⟩, ⟨by omega, by omega⟩, hn, ho⟩, Int.toNat_natCast, Int.toNat_natCast]
 simp [hi, hj]
theorem Zni (h1 : isS a "less" = false) (h2 : isS a "joined" = false) (h : isS a "row" = false ∨ r.length ≠ 1) : stp ks rss made (.tup (a :: r)) = none := by
 by_cases h3 : ∃ s, a = .str s
 ·obtain ⟨s, rfl⟩ := h3
  have n1 : s ≠ "less" := fun z => by subst z; rw [Zja] at h1; cases h1
  have n2 : s ≠ "joined" := fun z => by subst z; rw [Zja] at h2; cases h2
  by_cases h4 : ∃ i, r = [.int i]
  ·obtain ⟨i, rfl⟩ := h4
   have n3 : s ≠ "row" := fun z => by
    subst z
    rcases h with h | h
    ·rw [Zja] at h; cases h
    ·exact h rfl
   rw [Zgc, if_neg n1, if_neg n3]
  ·by_cases h5 : ∃ i j n, r = [.int i, .int j, .int n]
   ·obtain ⟨i, j, n, rfl⟩ := h5
    rw [Zgw, if_neg (fun z => n2 z.1)]
   ·exact Zdz (fun s i z => h4 ⟨i, (List.cons.inj z).2⟩) (fun s i j n z => h5 ⟨i, j, n, (List.cons.inj z).2⟩)
 ·exact Zdz (fun s i z => h3 ⟨s, (List.cons.inj z).1⟩) (fun s i j n z => h3 ⟨s, (List.cons.inj z).1⟩)
theorem Zuf (hb : Zd6 b rss.length = false) : stp ks rss made (.tup [.str "row", b]) = none := by
 cases b with
 | int i => rw [Zgc, if_neg lr, if_pos rfl, if_neg (Ziu hb)]
 | _ => exact Zdz (by intro s i z; cases z) (by intro s i j n z; cases z)
theorem Zoz {i : Nat} (hi : i < rss.length) : stp ks rss made (.tup [.str "row", .int i]) = some rss[i] := by
 rw [Zgc, if_neg lr, if_pos rfl, if_pos ⟨by omega, by omega⟩, Int.toNat_natCast]
 simp [hi]
end
theorem Ts.head {S : List Nat} {k w : Nat} {a : D} {r : List D} (h : Ts S H k w (a :: r)) : (∃ w', T S H k w' a) ∧ ∃ w', Ts S H k w' r := by
 obtain ⟨x, y, t1, t2, _⟩ := h.two
 exact ⟨⟨x, t1⟩, ⟨y, t2⟩⟩
theorem Zea {made : List (List Int)} {i : Nat} (h : i < made.length) : atI (made.map Za7) (i : Int) = some (Za7 made[i]) := Zdw (by simp [h])
theorem Zth {S : List Nat} {k w pm : Nat} {ks : List D} {rss made : List (List Int)} {r : List D} (hk : ∀ d ∈ ks, Zbw d) (h8 : ks.length ≤ 8) (hm : ∀ ls ∈ made, R ks.length ls) (g : H[pm]? = some (.lst (made.map Za7))) (h : Ts S H k w (.str "less" :: r)) (h30 : k ≤ 30)
  (q : Q (Zne (stp ks rss made (.tup (.str "less" :: r)))) H) : wE (Zda [.tup ks, .str "all", .ref pm, .tup (.str "less" :: r)] H) Q := by
 refine Zbc rfl ?_
 show wS (Zbo [some (.tup ks), some (.str "all"), some (.ref pm), some (.tup (.str "less" :: r))] H) _
 unfold Zbo
 fail "i"
 fail "g"
 refine ⟨fun z => ?_, fun z => ?_⟩
 ·fail "g"
  rw [Zt7 (fun y => by simp [y] at z)] at q
  exact q
 ·match r, h, q, z with
  | [b], h, q, z =>
   obtain ⟨w1, tb⟩ := h.head.2.elim fun _ x => x.head.1
   fail "g"
   rw [List.length_map]
   refine Zi6 tb h30 ?_
   fail "g"
   cases y : Zd6 b (made.length : Int) with
   | false => fail "g"; rw [Zub y] at q; exact q
   | true =>
    obtain ⟨i, rfl, hi⟩ := Zb1 y
    rw [Zmz hi] at q
    fail "g"
    refine w_ixR g (Zea hi) ?_
    fail "g"
    refine Zoe hk h8 (hm _ (List.getElem_mem hi)) ?_
    fail "g"
    exact q
  | [], h, q, z => simp at z
  | b :: c :: s, h, q, z => simp at z; omega
theorem Zoa {S : List Nat} {k w pm : Nat} {ks : List D} {rss made : List (List Int)} {r : List D} (hk : ∀ d ∈ ks, Zbw d) (h8 : ks.length ≤ 8) (hm : ∀ ls ∈ made, R ks.length ls) (g : H[pm]? = some (.lst (made.map Za7))) (h : Ts S H k w (.str "joined" :: r)) (h30 : k ≤ 30)
  (q : ∀ H', Fm [] H H' → Q (Zne (stp ks rss made (.tup (.str "joined" :: r)))) H') : wE (Zcf [.tup ks, .str "all", .ref pm, .tup (.str "joined" :: r)] H) Q := by
 refine Zbc rfl ?_
 show wS (Za9 [some (.tup ks), some (.str "all"), some (.ref pm), some (.tup (.str "joined" :: r))] H) _
 unfold Za9
 fail "i"
 fail "g"
 refine ⟨fun z => ?_, fun z => ?_⟩
 ·fail "g"
  have q := q H Fm.refl
  rw [Zug (fun y => by simp [y] at z)] at q
  exact q
 ·match r, h, q, z with
  | [b, c, e], h, q, z =>
   obtain ⟨w1, hb⟩ := h.head.2
   obtain ⟨w2, tb⟩ := hb.head.1
   obtain ⟨w3, hc⟩ := hb.head.2
   obtain ⟨w4, tc⟩ := hc.head.1
   obtain ⟨w5, he⟩ := hc.head.2
   obtain ⟨w6, te⟩ := he.head.1
   have no : (Zd6 b made.length && Zd6 c made.length && Zgs ks e) = false -> Q .non H := fun y => by
    have q := q H Fm.refl
    rw [Zur y] at q
    exact q
   fail "g"
   rw [List.length_map]
   refine Zi6 tb h30 ?_
   fail "g"
   cases y : Zd6 b (made.length : Int) with
   | false => fail "g"; exact no (by rw [y]; rfl)
   | true =>
    fail "g"
    rw [List.length_map]
    refine Zi6 tc h30 ?_
    fail "g"
    cases x : Zd6 c (made.length : Int) with
    | false => fail "g"; exact no (by rw [y, x]; rfl)
    | true =>
     fail "i"
     refine Zl0 hk te h30 ?_
     fail "g"
     cases v : Zgs ks e with
     | false => fail "g"; exact no (by rw [y, x, v]; rfl)
     | true =>
      obtain ⟨i, rfl, hi⟩ := Zb1 y
      obtain ⟨j, rfl, hj⟩ := Zb1 x
      obtain ⟨n, rfl, hn, ho⟩ := Zn8 v
      rw [Zpe hi hj hn ho] at q
      fail "g"
      refine w_ixR g (Zea hi) ?_
      fail "g"
      refine w_ixR g (Zea hj) ?_
      fail "g"
      refine Ztp (hm _ (List.getElem_mem hi)) (hm _ (List.getElem_mem hj)) h8 fun H1 x1 => ?_
      fail "g"
      exact q _ x1
  | [], h, q, z => simp at z
  | [b], h, q, z => simp at z
  | [b, c], h, q, z => simp at z
  | b :: c :: e :: f :: s, h, q, z => simp at z; omega
theorem Zmm {S : List Nat} {k w : Nat} {ks : List D} {rss made : List (List Int)} {a : D} {r : List D} (h : Ts S H k w (a :: r)) (h30 : k ≤ 30) (n1 : isS a "less" = false) (n2 : isS a "joined" = false)
  (q : Q (Zne (stp ks rss made (.tup (a :: r)))) H) : wE (Zel [Zaj ks rss, .tup (a :: r)] H) Q := by
 obtain ⟨w1, ta⟩ := h.head.1
 refine Zbc rfl ?_
 show wS (Zca [some (Zaj ks rss), some (.tup (a :: r))] H) _
 unfold Zca
 fail "i"
 fail "g"
 refine ⟨fun z => ?_, fun z => ?_⟩
 ·fail "g"
  rw [Zni n1 n2 (.inr fun y => by simp [y] at z)] at q
  exact q
 ·match r, h, q, z with
  | [b], h, q, z =>
   obtain ⟨w1, tb⟩ := h.head.2.elim fun _ x => x.head.1
   fail "g"
   refine Zo8 ta h30 (Zb3 (by decide)) ?_
   fail "g"
   cases y : isS a "row" with
   | false => fail "g"; rw [Zni n1 n2 (.inl y)] at q; exact q
   | true =>
    have := Zhf y
    subst this
    fail "g"
    rw [List.length_map]
    refine Zi6 tb h30 ?_
    fail "g"
    cases x : Zd6 b (rss.length : Int) with
    | false => fail "g"; rw [Zuf x] at q; exact q
    | true =>
     obtain ⟨i, rfl, hi⟩ := Zb1 x
     rw [Zoz hi] at q
     fail "g"
     refine w_ixT (Zea hi) ?_
     fail "g"
     exact q
  | [], h, q, z => simp at z
  | b :: c :: s, h, q, z => simp at z; omega
theorem Zll {a : D} {r : List D} (q : Q a H) : wE (ixD (.tup (a :: r)) (.int 0) H) Q := w_ixT (Zdw (j := 0) rfl) q
theorem Zmt {S : List Nat} {k w pm : Nat} {ks : List D} {rss made : List (List Int)} {d : D} (hk : ∀ d ∈ ks, Zbw d) (h8 : ks.length ≤ 8) (hm : ∀ ls ∈ made, R ks.length ls) (g : H[pm]? = some (.lst (made.map Za7))) (h : T S H k w d) (h30 : k ≤ 30)
  (q : ∀ H', Fm [] H H' → Q (Zne (stp ks rss made d)) H') : wE (Zcq [Zaj ks rss, .str "all", .ty "claims_row", .ref pm, d] H) Q := by
 refine Zbc rfl ?_
 show wS (Zed [some (Zaj ks rss), some (.str "all"), some (.ty "claims_row"), some (.ref pm), some d] H) _
 unfold Zed
 fail "i"
 refine Zqu h h30 ?_
 cases d with
 | tup ds =>
  unfold Zz5
  have ts := h.parts
  cases ds with
  | nil => fail "g"; exact q H Fm.refl
  | cons a r =>
   obtain ⟨w1, ta⟩ := ts.head.1
   fail "g"
   (refine WP.w_if ?_; fail "g")
   refine Zll ?_
   fail "g"
   refine Zj0 ta h30 (Zb3 (by decide)) ?_
   fail "g"
   cases y : isS a "less" with
   | true =>
    have := Zhf y
    subst this
    fail "g"
    refine Zth (rss := rss) hk h8 hm g ts h30 ?_
    fail "g"
    exact q H Fm.refl
   | false =>
    fail "i"
    refine Zll ?_
    fail "g"
    refine Zj0 ta h30 (Zb3 (by decide)) ?_
    fail "g"
    cases x : isS a "joined" with
    | true =>
     have := Zhf x
     subst this
     fail "g"
     refine Zoa (rss := rss) hk h8 hm g ts h30 fun H1 x1 => ?_
     fail "g"
     exact q H1 x1
    | false =>
     fail "g"
     refine Zxt rfl ?_
     fail "g"
     refine Zmm (made := made) ts h30 y x ?_
     fail "g"
     exact q H Fm.refl
 | _ => unfold Zz5; fail "g"; exact q H Fm.refl
variable {σ : SD} {H : HD} {Q : D -> HD -> Prop}
theorem Yai {p : Nat} {bs : List Bool} (g : H[p]? = some (.lst (bs.map .bl))) (q : Q (.bl (!bs.all id)) H) : wE (inD (.bl false) (.ref p) H) Q := by
 have f : Fines (bs.map D.bl) (bs.map PyData.bool) 0 := by
  clear g q
  induction bs with
  | nil => exact .nil
  | cons b r ih => exact .cons (.bl b) ih
 refine Yaj (.bl false) f (by omega) (by omega) g ?_
 have := Zvf bs
 rw [← this, Bool.not_not] at q
 exact q
theorem Yaq {x : Int} {p : Nat} {ls : List Int} (g : H[p]? = some (.lst (ls.map .int))) (q : Q (.bl (!decide (x ∈ ls))) H) : wE (niD (.int x) (.ref p) H) Q := w_niL (.int x) (Zcb ls) (by omega) (by omega) g (by rw [Zmo]; exact q)
theorem Zlv {a : D} {s : Str} (h : isSt a = false) : isS a s = false := by
 cases a with
 | str x => cases h
 | _ => rfl
theorem len1 {r : List D} (h : r.length = 1) : ∃ b, r = [b] := by
 match r, h with
 | [b], _ => exact ⟨b, rfl⟩
theorem len3 {r : List D} (h : r.length = 3) : ∃ b c e, r = [b, c, e] := by
 match r, h with
 | [b, c, e], _ => exact ⟨b, c, e, rfl⟩
theorem Zfp {S : List Nat} {k w : Nat} {ks : List D} {rss : List (List Int)} {m z : Option D} {a : D} {r : List D} (h : Ts S H k w (a :: r)) (h30 : k ≤ 30)
  (hn : (isS a "row" = false ∨ r.length ≠ 1) → Q .non H) (hy : ∀ b, r = [b] → isS a "row" = true → Zd6 b rss.length = false → Q .non H) (hr : ∀ (i : Nat) (hi : i < rss.length), r = [.int i] → isS a "row" = true → Q (Za7 rss[i]) H) :
  wS (sIf (Zga (tOf (eOp neD (eOp ixD (Zac 2) (eC (.int 0))) (eC (.str "row")))) (tOf (eOp neD (eCB Zbv (Zaa (Zac 2) Zae)) (eC (.int 2))))) (Zaf (Zaz (eC .non)) Zak) Zak [some (Zaj ks rss), m, some (.tup (a :: r)), z] H)
   (Zr1 (fun σ1 H1 => wS (Zaf (sIf (tNo (Zgq (Zal 2 Za0 (Zaa (eOp ixD (Zac 2) (eC (.int 1))) (Zaa (eCB Zbv (Zaa (eOp ixD (Zac 0) (eC (.int 1))) Zae)) Zae))))) (Zaf (Zaz (eC .non)) Zak) Zak)
   (Zaf (Zaz (eOp ixD (eOp ixD (Zac 0) (eC (.int 1))) (eOp ixD (Zac 2) (eC (.int 1))))) Zak) σ1 H1) (fin Q)) (fin Q)) := by
 obtain ⟨w1, ta⟩ := h.head.1
 (refine WP.w_if ?_; fail "g")
 refine Zll ?_
 fail "g"
 refine Zo8 ta h30 (Zb3 (by decide)) ?_
 fail "g"
 cases y : isS a "row" with
 | false => fail "g"; exact hn (.inl y)
 | true =>
  fail "g"
  refine ⟨fun v => ?_, fun v => ?_⟩
  ·fail "g"
   exact hn (.inr fun x => by simp [x] at v)
  ·match r, h, hn, hy, hr, v with
   | [b], h, hn, hy, hr, v =>
    obtain ⟨w1, tb⟩ := h.head.2.elim fun _ x => x.head.1
    fail "i"
    rw [List.length_map]
    refine Zgx tb h30 ?_
    fail "g"
    cases x : Zd6 b (rss.length : Int) with
    | false => fail "g"; exact hy b rfl y x
    | true =>
     obtain ⟨i, rfl, hi⟩ := Zb1 x
     fail "g"
     refine w_ixT (Zea hi) ?_
     fail "g"
     exact hr i hi rfl y
   | [], h, hn, hy, hr, v => simp at v
   | b :: c :: s, h, hn, hy, hr, v => simp at v; omega
theorem Zkc {ks : List D} {e : D} : Zgs ks e = (Zd6 e ((ks.length : Int) + 1) && (match e with | .int n => decide (n ∈ nms ks) | _ => false)) := by
 cases e with
 | int n =>
  rw [Bool.eq_iff_iff]
  show (decide (1 ≤ n) && decide (n ≤ (ks.length : Int)) && !Zeq ks n) = true ↔ (decide (0 ≤ n) && decide (n < (ks.length : Int) + 1) && decide (n ∈ nms ks)) = true
  rw [Bool.and_eq_true, Bool.and_eq_true, Bool.and_eq_true, Bool.and_eq_true, decide_eq_true_iff, decide_eq_true_iff, decide_eq_true_iff, decide_eq_true_iff, decide_eq_true_iff, Zl2]
  simp only [Bool.not_eq_true']
  constructor
  ·rintro ⟨⟨h1, h2⟩, h3⟩; exact ⟨⟨by omega, by omega⟩, h1, h2, h3⟩
  ·rintro ⟨_, h1, h2, h3⟩; exact ⟨⟨h1, h2⟩, h3⟩
 | _ => rfl
theorem Zln {S : List Nat} {k w pm : Nat} {ks : List D} {rss made : List (List Int)} {d : D} (hk : ∀ d ∈ ks, Zbw d) (h8 : ks.length ≤ 8) (hm : ∀ ls ∈ made, R ks.length ls) (g : H[pm]? = some (.lst (made.map Za7))) (h : T S H k w d) (h30 : k ≤ 30)
  (q : ∀ H', Fm [] H H' -> Q (Zne (stp ks rss made d)) H') : wE (Zeo [Zaj ks rss, .ref pm, d] H) Q := by
 refine Zbc rfl ?_
 show wS (Zdm [some (Zaj ks rss), some (.ref pm), some d, none] H) _
 unfold Zdm
 fail "i"
 refine Zqu h h30 ?_
 cases d with
 | tup ds =>
  unfold Zz5
  have ts := h.parts
  cases ds with
  | nil => fail "g"; exact q H Fm.refl
  | cons a r =>
   obtain ⟨w1, ta⟩ := ts.head.1
   have no : stp ks rss made (.tup (a :: r)) = none -> Q .non H := fun e => by have q := q H Fm.refl; rw [e] at q; exact q
   fail "g"
   refine Zll ?_
   fail "g"
   refine Zxw ta h30 ?_
   fail "g"
   cases ys : isSt a with
   | false => fail "g"; exact no (Zni (Zlv ys) (Zlv ys) (.inl (Zlv ys)))
   | true =>
    fail "i"
    refine Zll ?_
    fail "g"
    refine Zj0 ta h30 (Zb3 (by decide)) ?_
    fail "g"
    cases y : isS a "less" with
    | true =>
     have := Zhf y
     subst this
     by_cases hl : r.length = 1
     ·obtain ⟨b, rfl⟩ := len1 hl
      obtain ⟨w1, tb⟩ := ts.head.2.elim fun _ x => x.head.1
      fail "g"
      rw [List.length_map]
      refine Zgx tb h30 ?_
      fail "g"
      cases x : Zd6 b (made.length : Int) with
      | false =>
       fail "i"
       refine Zfp ts h30 (fun _ => no (Zub x)) (fun b _ z => absurd z (by decide)) (fun i hi _ z => absurd z (by decide))
      | true =>
       obtain ⟨i, rfl, hi⟩ := Zb1 x
       rw [Zmz hi] at q
       fail "g"
       refine w_ixR g (Zea hi) ?_
       fail "g"
       refine Zpr hk h8 (hm _ (List.getElem_mem hi)) fun H1 x1 => ?_
       fail "g"
       exact q _ x1
     ·fail "g"
      refine ⟨fun v => absurd v (by simp; omega), fun v => ?_⟩
      fail "i"
      refine Zll ?_
      fail "g"
      refine Zfp ts h30 (fun _ => no (Zt7 hl)) (fun b _ z => absurd z (by decide)) (fun i hi _ z => absurd z (by decide))
    | false =>
     fail "i"
     refine Zll ?_
     fail "g"
     refine Zj0 ta h30 (Zb3 (by decide)) ?_
     fail "g"
     cases x : isS a "joined" with
     | false =>
      fail "g"
      refine Zfp ts h30 (fun z => no (Zni y x z)) (fun b e z v => ?_) (fun i hi e z => ?_)
      ·subst e
       have := Zhf z
       subst this
       exact no (Zuf v)
      ·subst e
       have := Zhf z
       subst this
       have q := q H Fm.refl
       rw [Zoz hi] at q
       exact q
     | true =>
      have := Zhf x
      subst this
      fail "g"
      refine ⟨fun v => ?_, fun v => ?_⟩
      ·obtain ⟨b, c, e, rfl⟩ := len3 (r := r) (by simp at v; omega)
       obtain ⟨w1, hb⟩ := ts.head.2
       obtain ⟨w2, tb⟩ := hb.head.1
       obtain ⟨w3, hc⟩ := hb.head.2
       obtain ⟨w4, tc⟩ := hc.head.1
       obtain ⟨w5, he⟩ := hc.head.2
       obtain ⟨w6, te⟩ := he.head.1
       refine w_seq (w_set (Zq9 hk h8 ?_))
       have X1 : Fm [] H (H ++ [DO.lst ((nms ks).map .int)]) := Fm.app _
       have nj : (Zd6 b made.length && Zd6 c made.length && Zgs ks e) = false -> ∀ H', Fm [] H H' -> Q .non H' := fun y H' x' => by
        have q := q H' x'
        rw [Zur y] at q
        exact q
       fail "i"
       refine Zgb (d := .tup [b, c]) (by with_unfolding_all rfl) ?_
       fail "g"
       refine Zhj (fun d => .bl (Zd6 d made.length)) (fun H' => H' = H ++ [DO.lst ((nms ks).map .int)]) (fun _ _ => Zjz) _ (fun y hy H2 j => ?_) _ rfl fun H2 j => ?_
       ·subst j
        obtain ⟨w7, ty⟩ : ∃ w7, T S H k w7 y := by
         rcases List.mem_cons.mp hy with rfl | hy
         ·exact ⟨_, tb⟩
         ·rw [List.mem_singleton.mp hy]; exact ⟨_, tc⟩
        show wE (Zal 2 Za0 (Zaa (Zac 0) (Zaa (eCB Zbv (Zaa (Zac 1) Zae)) Zae)) (some y :: [some (.ref pm)]) _) _
        fail "g"
        rw [List.length_map]
        refine Zgx (ty.fm0 X1) h30 ?_
        exact ⟨rfl, rfl⟩
       subst j
       refine ⟨by simp, ?_⟩
       refine Yai (bs := [Zd6 b made.length, Zd6 c made.length]) last ?_
       fail "g"
       have X2 := X1.trans (Fm.app (S := []) [DO.lst [D.bl (Zd6 b made.length), D.bl (Zd6 c made.length)]])
       cases yb : Zd6 b (made.length : Int) with
       | false => fail "g"; exact nj (by rw [yb]; rfl) _ X2
       | true =>
        cases yc : Zd6 c (made.length : Int) with
        | false => fail "g"; exact nj (by rw [yb, yc]; rfl) _ X2
        | true =>
         fail "i"
         refine Zgx (te.fm0 X2) h30 ?_
         fail "g"
         cases ye : Zd6 e ((ks.length : Int) + 1) with
         | false => fail "g"; exact nj (by rw [yb, yc, Zkc, ye]; rfl) _ X2
         | true =>
          obtain ⟨n, rfl, hn⟩ := Zb1 (m := ks.length + 1) ye
          fail "g"
          refine Yaq (appL last) ?_
          fail "g"
          cases yn : decide ((n : Int) ∈ nms ks) with
          | false => fail "g"; exact nj (by rw [yb, yc, Zkc, ye]; exact yn) _ X2
          | true =>
           obtain ⟨i, rfl, hi⟩ := Zb1 yb
           obtain ⟨j, rfl, hj⟩ := Zb1 yc
           obtain ⟨n1, n2, n3⟩ := Zl2.mp (of_decide_eq_true yn)
           rw [Zpe hi hj ⟨n1, n2⟩ n3] at q
           fail "g"
           refine w_ixR (appL (appL g)) (Zea hi) ?_
           fail "g"
           refine w_ixR (appL (appL g)) (Zea hj) ?_
           fail "g"
           refine Zh4 (hm _ (List.getElem_mem hi)) (hm _ (List.getElem_mem hj)) h8 n1 fun H1 x1 => ?_
           fail "g"
           exact q _ (X2.trans x1)
      ·fail "g"
       refine Zfp ts h30 (fun z => no (Zug fun w => by simp [w] at v)) (fun b _ z => absurd z (by decide)) (fun i hi _ z => absurd z (by decide))
 | _ => unfold Zz5; fail "g"; exact q H Fm.refl
variable {σ : SD} {H : HD} {Q : D -> HD -> Prop}
structure CR (ks : List D) (rss : List (List Int)) : Prop where
 hk : ∀ d ∈ ks, Zbw d
 h8 : ks.length ≤ 8
 hr : ∀ ls ∈ rss, R ks.length ls
 hl : rss.length ≤ 1000
noncomputable def Th (k : Nat) (H : HD) (ds : List D) : Prop := ∀ d ∈ ds, ∃ w, T [] H k w d
theorem Th.fm {k : Nat} {H H' : HD} {ds : List D} (t : Th k H ds) (x : Fm [] H H') : Th k H' ds := fun d hd => let ⟨w, h⟩ := t d hd; ⟨w, h.fm0 x⟩
theorem Zpv {f : AF} {I : List D -> Zgr -> HD -> Prop} (h : wA (f σ H) fun ds H1 => ∃ n xs, ds = [.ref n] ∧ H1[n]? = some (.lst xs) ∧ I (Zcv 0 xs) [(n, .lst xs)] H1) : wI (Zli f σ H) I := by
 obtain ⟨ds, H1, e, n, xs, rfl, g, q⟩ := h
 exact ⟨_, _, _, by unfold Zli; rw [e]; simp only [Zb]; rw [g], q⟩
noncomputable abbrev amB : SF := (Zaf (Zav 7 (Zal 5 Zcq (Zaa (Zac 0) (Zaa (Zac 1) (Zaa (Zac 2) (Zaa (Zac 4) (Zaa (Zac 6) Zae)))))))
 (Zaf (sIf (tOf (eOp isD (Zac 7) (eC .non))) (Zaf Zz6 Zak) Zak) (Zaf (Zds (eLM Zbk (Zac 4) (Zaa (Zac 7) Zae))) Zak)))
noncomputable abbrev amY : YFs := (Zxp (Zav 7 (Zal 5 Zcq (Zaa (Zac 0) (Zaa (Zac 1) (Zaa (Zac 2) (Zaa (Zac 4) (Zaa (Zac 6) Zae)))))))
 (yIf (tOf (eOp isD (Zac 7) (eC .non))) (Ziv (Zac 5)) yNo))
noncomputable abbrev amG : GF := gTp 2 (gCn (gNm 5) (gCn (gNm 6) gNl))
section
variable {k w pm : Nat} {ks : List D} {rss made : List (List Int)} {d sd : D} {x : List Int} {n : Int} {z5 z6 z7 : Option D}
theorem Zu3 {K : SD -> HD -> Prop} {Z : FD -> SD -> HD -> Prop} (c : CR ks rss) (hm : ∀ ls ∈ made, R ks.length ls) (hl : made.length ≤ 1000) (g : H[pm]? = some (.lst (made.map Za7))) (h : T [] H k w d) (h30 : k ≤ 30) (e : stp ks rss made d = some x)
  (q : ∀ H2, Fm [pm] H H2 → H2[pm]? = some (.lst ((made ++ [x]).map Za7)) → K [some (Zaj ks rss), some (.str "all"), some (.ty "claims_row"), some sd, some (.ref pm), some (.int n), some d, some (Za7 x)] H2) :
  wG (amG (.tup [.int n, d]) [some (Zaj ks rss), some (.str "all"), some (.ty "claims_row"), some sd, some (.ref pm), z5, z6, z7] H) fun σ1 H1 => wS (amB σ1 H1) (again K Z) := by
 fail "g"
 refine Zmt c.hk c.h8 hm g h h30 fun H1 x1 => ?_
 rw [e]
 show wS _ _
 fail "i"
 refine ⟨isl (x1.lst (by simp) g), ?_⟩
 fail "g"
 refine Zha (x1.lst (by simp) g) (by simp; omega) ?_
 fail "g"
 refine q _ ((x1.sub (by simp)).trans (Fm.set (by simp))) ?_
 rw [Zrg (x1.lst (by simp) g)]
 simp
 rfl
theorem Zzq (c : CR ks rss) (hm : ∀ ls ∈ made, R ks.length ls) (g : H[pm]? = some (.lst (made.map Za7))) (h : T [] H k w d) (h30 : k ≤ 30) (e : stp ks rss made d = none) {Z : Int -> HD -> Prop} (hn : n.natAbs < 1000000) (q : ∀ H2, Fm [] H H2 -> Z n H2) :
  wG (amG (.tup [.int n, d]) [some (Zaj ks rss), some (.str "all"), some (.ty "claims_row"), some sd, some (.ref pm), z5, z6, z7] H) fun σ1 H1 => wX (amB σ1 H1) (amY σ1 H1) Z := by
 fail "g"
 refine Zvd ?_
 fail "g"
 refine Zmt c.hk c.h8 hm g h h30 fun H1 x1 => ?_
 rw [e]
 fail "g"
 refine Zu4 (wx_if ?_)
 fail "g"
 refine Zr7 ?_
 fail "g"
 exact ⟨hn, q _ x1⟩
end
section
variable {k ps : Nat} {ks : List D} {rss : List (List Int)} {ds : List D}
theorem Zhe (c : Nat) (d : D) (r : List D) : Zcv (c : Int) (d :: r) = .tup [.int c, d] :: Zcv ((c + 1 : Nat) : Int) r := by
 rw [Zcv]
 simp
theorem Zgy {made : List (List Int)} {pre : List D} {d : D} {x : List Int} (ok : mok ks rss made pre = true) (e : stp ks rss (mad ks rss made pre) d = some x) : mok ks rss made (pre ++ [d]) = true ∧ mad ks rss made (pre ++ [d]) = mad ks rss made pre ++ [x] := by
 rw [Zjn, ok, Zjq _ _ _ _ _ ok]
 simp only [mok, mad, e, Bool.true_and, and_self]
theorem Zk4 (c : CR ks rss) (g : H[ps]? = some (.lst ds)) (t : Th k H ds) (h30 : k ≤ 30) (hl : ds.length ≤ 1000) (ok : mok ks rss [] ds = true)
  (q : ∀ p H', H'[p]? = some (.lst ((mad ks rss [] ds).map Za7)) → H.length ≤ p → Fm [] H H' → Q (.ref p) H') : wE (Zdk [Zaj ks rss, .str "all", .ty "claims_row", .ref ps] H) Q := by
 refine Zbc rfl ?_
 show wS (Zb5 [some (Zaj ks rss), some (.str "all"), some (.ty "claims_row"), some (.ref ps), none, none, none, none] H) _
 unfold Zb5
 fail "g"
 refine Zpv ?_
 fail "g"
 refine ⟨_, _, rfl, appL g, ?_⟩
 have np : H.length ≠ ps := by have := (List.getElem?_eq_some_iff.mp g).1; omega
 refine Zd7 (g := amG) (b := amB) (fun d t σ H' => ∃ (pre r : List D) (z5 z6 z7 : Option D), ds = pre ++ r ∧ t = Zcv (pre.length : Int) r ∧ mok ks rss [] pre = true ∧ H'[H.length]? = some (.lst ((mad ks rss [] pre).map Za7)) ∧ Fm [] H H' ∧ σ = [some (Zaj ks rss), some (.str "all"), some (.ty "claims_row"), some (.ref ps), some (.ref H.length), z5, z6, z7]) (fun d t σ H' ⟨pre, r, z5, z6, z7, i1, i2, i3, i4, i5, i6⟩ => Zus (i5.lst (by simp) g)) (fun d x tt σ H1 ⟨pre, r, z5, z6, z7, i1, i2, i3, i4, i5, i6⟩ => ?_) (fun d σ H1 ⟨pre, r, z5, z6, z7, i1, i2, i3, i4, i5, i6⟩ => ?_) _ [] _ _ ⟨[], ds, _, _, _, rfl, rfl, rfl, last, Fm.app _, rfl⟩
 ·subst i6
  cases r with
  | nil => cases i2
  | cons d0 r =>
   rw [Zhe] at i2
   obtain ⟨rfl, rfl⟩ := List.cons.inj i2
   have o2 := ok
   rw [i1, Zjn, i3, Bool.true_and] at o2
   cases e : stp ks rss (mad ks rss [] pre) d0 with
   | none => simp only [mok, e] at o2; cases o2
   | some x =>
    obtain ⟨s1, s2⟩ := Zgy i3 e
    obtain ⟨w, td⟩ := t d0 (by rw [i1]; simp)
    have lm := Zfs ks rss pre [] i3
    have ld : pre.length < ds.length := by rw [i1]; simp
    refine Zu3 c (Zjr c.hr pre [] (by simp)) (by simp at lm; omega) i4 (td.fm0 i5) h30 e fun H2 x2 g2 => ?_
    exact ⟨pre ++ [d0], r, _, _, _, by rw [i1]; simp, by simp, s1, by rw [s2]; exact g2, i5.new x2 (fun q hq _ => by simp at hq; subst hq; exact Nat.le_refl _), rfl⟩
 ·subst i6
  cases r with
  | cons d0 r => rw [Zhe] at i2; cases i2
  | nil =>
   rw [List.append_nil] at i1
   subst i1
   fail "g"
   exact q _ _ i4 (Nat.le_refl _) i5
theorem Zux (c : CR ks rss) {H0 : HD} (g : H0[ps]? = some (.lst ds)) (t : Th k H0 ds) (h30 : k ≤ 30) (hl : ds.length ≤ 1000) : ∀ (r pre : List D) (z5 z6 z7 : Option D) (H : HD), ds = pre ++ r -> mok ks rss [] pre = true -> mok ks rss (mad ks rss [] pre) r = false -> H[H0.length]? = some (.lst ((mad ks rss [] pre).map Za7)) -> Fm [] H0 H →
  wX (Zia [(ps, .lst ds)] amG amB (Zcv (pre.length : Int) r) [some (Zaj ks rss), some (.str "all"), some (.ty "claims_row"), some (.ref ps), some (.ref H0.length), z5, z6, z7] H) (Zfx [(ps, .lst ds)] amG amB amY (Zcv (pre.length : Int) r) [some (Zaj ks rss), some (.str "all"), some (.ty "claims_row"), some (.ref ps), some (.ref H0.length), z5, z6, z7] H) fun i H2 => i = ((mad ks rss [] ds).length : Int) ∧ Fm [] H0 H2
 | [], pre, z5, z6, z7, H, i1, i2, i3, i4, i5 => by cases i3
 | d0 :: r, pre, z5, z6, z7, H, i1, i2, i3, i4, i5 => by
  rw [Zhe]
  obtain ⟨w, td⟩ := t d0 (by rw [i1]; simp)
  have lm := Zfs ks rss pre [] i2
  have ld : pre.length < ds.length := by rw [i1]; simp
  have np : H0.length ≠ ps := by have := (List.getElem?_eq_some_iff.mp g).1; omega
  cases e : stp ks rss (mad ks rss [] pre) d0 with
  | none =>
   refine Zwp (Zus (i5.lst (by simp) g)) (Zzq c (Zjr c.hr pre [] (by simp)) i4 (td.fm0 i5) h30 e (by omega) fun H2 x2 => ⟨?_, i5.trans x2⟩)
   have e1 : mad ks rss [] ds = mad ks rss [] pre := by
    rw [i1, Zjq _ _ _ _ _ i2]
    simp only [mad, e]
   rw [e1, lm]
   simp
  | some x =>
   obtain ⟨s1, s2⟩ := Zgy i2 e
   have i3' : mok ks rss (mad ks rss [] (pre ++ [d0])) r = false := by
    simp only [mok, e] at i3
    rw [s2]; exact i3
   refine Zwe (Zus (i5.lst (by simp) g)) (Zu3 c (Zjr c.hr pre [] (by simp)) (by simp at lm; omega) i4 (td.fm0 i5) h30 e fun H2 x2 g2 => ?_)
   have := Zux c g t h30 hl r (pre ++ [d0]) (some (.int (pre.length : Int))) (some d0) (some (Za7 x)) H2 (by rw [i1]; simp) s1 i3' (by rw [s2]; exact g2) (i5.new x2 (fun q hq _ => by simp at hq; subst hq; exact Nat.le_refl _))
   simpa using this
theorem Zk0 (c : CR ks rss) (g : H[ps]? = some (.lst ds)) (t : Th k H ds) (h30 : k ≤ 30) (hl : ds.length ≤ 1000) (ok : mok ks rss [] ds = false) {Z : Int -> HD -> Prop} (q : ∀ H', Fm [] H H' -> Z ((mad ks rss [] ds).length : Int) H') :
  wXD (Zdk [Zaj ks rss, .str "all", .ty "claims_row", .ref ps] H) (Zer [Zaj ks rss, .str "all", .ty "claims_row", .ref ps] H) Z := by
 refine Zt8 rfl ?_
 show wX (Zb5 [some (Zaj ks rss), some (.str "all"), some (.ty "claims_row"), some (.ref ps), none, none, none, none] H) (Zcx [some (Zaj ks rss), some (.str "all"), some (.ty "claims_row"), some (.ref ps), none, none, none, none] H) _
 unfold Zb5 Zcx
 refine Zvd ?_
 fail "g"
 refine Zu4 (Yau (Zpv ?_))
 fail "g"
 refine ⟨_, _, rfl, appL g, ?_⟩
 obtain ⟨h1, i, H2, e, rfl, x2⟩ := Zux c g t h30 hl ds [] none none none (H ++ [.lst []]) rfl rfl ok last (Fm.app _)
 exact ⟨h1, _, H2, e, q _ x2⟩
end
variable {σ : SD} {H : HD} {Q : D -> HD -> Prop}
theorem Ztg {n : Nat} {F : FF} {Y : YFF} {fa : AF} {g : SF} {Z : Int -> HD -> Prop} (h : wA (fa σ H) fun ds H1 => ds.length = n ∧ wXD (F ds H1) (Y ds H1) Z) : wX (Zaf (Zaz (Zal n F fa)) g σ H) (Zex n Y fa σ H) Z := by
 obtain ⟨ds, H1, e, hl, e1, q⟩ := h
 refine ⟨Zsi ?_, ?_⟩
 ·unfold Zaz Zal; rw [e]; simp only [Zb]; rw [if_pos hl, e1]; rfl
 ·unfold Zex; rw [e]; simp only [Zb]; rw [if_pos hl]; exact q
theorem Zef {p r : Nat} {xs ys : List D} (g1 : H[p]? = some (.lst xs)) (g2 : H[r]? = some (.lst ys)) (h : xs.length + ys.length ≤ 1000000) (q : Q (.ref H.length) (H ++ [.lst (xs ++ ys)])) : wE (Zbg (.ref p) (.ref r) H) Q := by
 refine ⟨_, _, ?_, q⟩
 simp only [Zbg, g1, g2]
 exact if_pos (Zf3 (by rw [List.length_append]; exact h))
theorem Zua {p r : Nat} {ds : List D} {xs : List PyData} {h : Nat} (f : Fines ds xs h) (hh : h < 30) (g1 : H[p]? = some (.lst ds)) (g2 : H[r]? = some (.lst ds)) (q : Q (.bl true) H) : wE (eqD (.ref p) (.ref r) H) Q :=
 ⟨_, _, Zg8 (f.dat hh g1) (f.dat hh g2), by rw [Zgv (.list xs) f.lay]; exact q⟩
theorem Ya8 {p r : Nat} {ds : List D} {xs : List PyData} {h : Nat} (f : Fines ds xs h) (hh : h < 30) (g1 : H[p]? = some (.lst ds)) (g2 : H[r]? = some (.lst ds)) (q : Q (.bl false) H) : wE (neD (.ref p) (.ref r) H) Q :=
 ⟨_, _, Zgd (f.dat hh g1) (f.dat hh g2), by rw [Zgv (.list xs) f.lay]; exact q⟩
noncomputable def Zop (ks : List D) (rss : List (List Int)) (ds : List D) : Bool := mok ks rss [] ds && (match (mad ks rss [] ds).getLast? with
 | some ls => ls.isEmpty
 | none => false)
section
variable {k ps : Nat} {ks : List D} {rss : List (List Int)} {ds : List D}
theorem Zi9 (c : CR ks rss) (g : H[ps]? = some (.lst ds)) (t : Th k H ds) (h30 : k ≤ 30) (hl : ds.length ≤ 1000) (ok : mok ks rss [] ds = true)
  (q : ∀ p H', H'[p]? = some (.lst ((mad ks rss [] ds).map Za7)) -> H.length ≤ p -> Fm [] H H' -> Q (.ref p) H') : wE (Zb9 [Zaj ks rss, .ref ps] H) Q := by
 refine Zbc rfl ?_
 show wS (Zcw [some (Zaj ks rss), some (.ref ps)] H) _
 unfold Zcw
 fail "g"
 refine Zk4 c g t h30 hl ok fun p H' g' l x => ?_
 fail "g"
 exact q p H' g' l x
theorem Zm4 (c : CR ks rss) (g : H[ps]? = some (.lst ds)) (t : Th k H ds) (h30 : k ≤ 30) (hl : ds.length ≤ 1000) (ok : mok ks rss [] ds = false) {Z : Int -> HD -> Prop} (q : ∀ H', Fm [] H H' -> Z ((mad ks rss [] ds).length : Int) H') :
  wXD (Zb9 [Zaj ks rss, .ref ps] H) (Zfn [Zaj ks rss, .ref ps] H) Z := by
 refine Zt8 rfl ?_
 show wX (Zcw [some (Zaj ks rss), some (.ref ps)] H) (Zdo [some (Zaj ks rss), some (.ref ps)] H) _
 unfold Zcw Zdo
 refine Ztg ?_
 fail "g"
 exact ⟨rfl, Zk0 c g t h30 hl ok q⟩
theorem Zot (c : CR ks rss) (g : H[ps]? = some (.lst ds)) (t : Th k H ds) (h30 : k ≤ 30) (hl : ds.length ≤ 1000) (q : ∀ H', Fm [] H H' -> Q (.bl (Zop ks rss ds)) H') : wE (Zdb [Zaj ks rss, .ref ps] H) Q := by
 refine Zbc rfl ?_
 show wS (Zbp [some (Zaj ks rss), some (.ref ps)] H) _
 unfold Zbp
 fail "g"
 refine Zbc rfl ?_
 show wS (Zdt [some (Zaj ks rss), some (.str "all"), some (.ty "claims_row"), some (.ref ps), none] H) _
 unfold Zdt
 fail "i"
 refine w_isi' rfl (tyR g) (r := true) rfl ?_
 fail "g"
 cases ok : mok ks rss [] ds with
 | false =>
  have e : Zop ks rss ds = false := by unfold Zop; rw [ok]; rfl
  rw [e] at q
  refine Zwt (Zsm ?_)
  fail "g"
  refine ⟨rfl, Zk0 c g t h30 hl ok fun H' x => ?_⟩
  fail "g"
  exact q H' x
 | true =>
  refine Zwf ?_
  fail "g"
  refine Zk4 c g t h30 hl ok fun p H' g' l x => ?_
  fail "g"
  cases em : (mad ks rss [] ds).reverse with
  | nil =>
   have e0 : mad ks rss [] ds = [] := by simpa using em
   have e : Zop ks rss ds = false := by unfold Zop; rw [e0]; simp
   rw [e0] at g'
   rw [e] at q
   rw [e0]
   fail "g"
   exact q H' x
  | cons y r =>
   have e0 : mad ks rss [] ds = r.reverse ++ [y] := by
    have := congrArg List.reverse em
    simpa using this
   have e : Zop ks rss ds = y.isEmpty := by unfold Zop; rw [ok, e0, List.getLast?_concat]; rfl
   rw [e0] at g'
   rw [e] at q
   rw [e0]
   refine ⟨fun _ => ?_, fun z => by simp at z⟩
   fail "g"
   refine w_ixR g' (by rw [List.map_append]; exact Zsj _ _) ?_
   fail "g"
   refine Zp9 (Zcb y) (by omega) ?_
   fail "g"
   rw [show (y.map D.int).isEmpty = y.isEmpty by cases y <;> rfl]
   exact q H' x
theorem Zhk (c : CR ks rss) (g : H[ps]? = some (.lst ds)) (t : Th k H ds) (h30 : k ≤ 30) (hl : ds.length ≤ 1000)
  (q : ∀ p H', H'[p]? = some (.lst ((mad ks rss [] ds).map Za7)) -> H.length ≤ p -> Fm [] H H' -> Q (.ref p) H') : wE (Zdi [Zaj ks rss, .ref ps] H) Q := by
 refine Zbc rfl ?_
 show wS (Zdq [some (Zaj ks rss), some (.ref ps), none, none, none] H) _
 unfold Zdq
 fail "g"
 have np : H.length ≠ ps := by have := (List.getElem?_eq_some_iff.mp g).1; omega
 refine Zd7 (fun d t σ H' => ∃ (pre : List D) (z3 z4 : Option D), ds = pre ++ t ∧ mok ks rss [] pre = true ∧ H'[H.length]? = some (.lst ((mad ks rss [] pre).map Za7)) ∧ Fm [] H H' ∧ σ = [some (Zaj ks rss), some (.ref ps), some (.ref H.length), z3, z4]) (fun d t σ H' ⟨pre, z3, z4, i1, i3, i4, i5, i6⟩ => Zus (i5.lst (by simp) g)) (fun d d0 r σ H1 ⟨pre, z3, z4, i1, i3, i4, i5, i6⟩ => ?_) (fun d σ H1 ⟨pre, z3, z4, i1, i3, i4, i5, i6⟩ => ?_) _ [] _ _ ⟨[], _, _, rfl, rfl, last, Fm.app _, rfl⟩
 ·subst i6
  obtain ⟨w, td⟩ := t d0 (by rw [i1]; simp)
  have lm := Zfs ks rss pre [] i3
  have ld : pre.length < ds.length := by rw [i1]; simp
  fail "g"
  refine Zln c.hk c.h8 (Zjr c.hr pre [] (by simp)) i4 (td.fm0 i5) h30 fun H2 x2 => ?_
  have g2 := (x2.lst (by simp) i4)
  cases e : stp ks rss (mad ks rss [] pre) d0 with
  | none =>
   have e1 : mad ks rss [] ds = mad ks rss [] pre := by
    rw [i1, Zjq _ _ _ _ _ i3]
    simp only [mad, e]
   show wS _ _
   fail "i"
   rw [← e1] at g2
   exact q _ _ g2 (Nat.le_refl _) (i5.trans x2)
  | some x =>
   obtain ⟨s1, s2⟩ := Zgy i3 e
   show wS _ _
   fail "i"
   refine ⟨isl g2, ?_⟩
   fail "g"
   refine Zha g2 (by simp at lm ⊢; omega) ?_
   fail "g"
   refine ⟨pre ++ [d0], _, _, by rw [i1]; simp, s1, ?_, (i5.trans x2).new (Fm.set (S := [H.length]) (by simp)) (fun q hq _ => by simp at hq; subst hq; exact Nat.le_refl _), rfl⟩
   rw [Zrg g2, s2]
   simp
   rfl
 ·subst i6
  rw [List.append_nil] at i1
  subst i1
  fail "g"
  exact q _ _ i4 (Nat.le_refl _) i5
theorem Zpd (c : CR ks rss) (g : H[ps]? = some (.lst ds)) (t : Th k H ds) (h30 : k ≤ 30) (hl : ds.length ≤ 1000) (ok : mok ks rss [] ds = false) (q : ∀ H', Fm [] H H' -> Q (.int ((mad ks rss [] ds).length : Int)) H') : wE (Zd1 [Zaj ks rss, .ref ps] H) Q := by
 refine Zbc rfl ?_
 show wS (Zb0 [some (Zaj ks rss), some (.ref ps), none, none] H) _
 unfold Zb0
 fail "g"
 refine Zum (Znh ?_)
 fail "g"
 refine ⟨rfl, Zm4 c g t h30 hl ok fun H' x => ?_⟩
 fail "g"
 exact q H' x
theorem Zvt (c : CR ks rss) (g : H[ps]? = some (.lst ds)) (t : Th k H ds) (h30 : k ≤ 30) (hl : ds.length ≤ 1000) (ok : mok ks rss [] ds = false) (q : ∀ H', Fm [] H H' -> Q (.bl true) H') : wE (Ze7 [Zaj ks rss, .ref ps] H) Q := by
 refine Zbc rfl ?_
 show wS (Zcp [some (Zaj ks rss), some (.ref ps), none, none] H) _
 unfold Zcp
 fail "g"
 refine Zum (Znh ?_)
 fail "g"
 refine ⟨rfl, Zm4 c (appL g) (t.fm (Fm.app _)) h30 hl ok fun H' x => ?_⟩
 fail "g"
 refine Zef (appL last) last (by simp) ?_
 fail "g"
 refine Zua (ds := [.bl true, .bl true, .bl false, .bl false]) (.cons (.bl true) (.cons (.bl true) (.cons (.bl false) (.cons (.bl false) .nil)))) (by omega) (appL last) last ?_
 fail "g"
 exact q _ ((((((Fm.app _).trans x).trans (Fm.app _)).trans (Fm.app _)).trans (Fm.app _)).trans (Fm.app _))
theorem Zmx : ∀ bs : List Bool, ((bs.map PyData.bool).any fun z => PyData.eqv z (.bool true)) = bs.any id
 | [] => rfl
 | b :: r => by
  rw [List.map_cons, List.any_cons, List.any_cons, Zmx r]
  cases b <;> rfl
theorem Zx8 {p : Nat} {bs : List Bool} (g : H[p]? = some (.lst (bs.map .bl))) (q : Q (.bl (bs.any id)) H) : wE (inD (.bl true) (.ref p) H) Q := by
 have f : Fines (bs.map D.bl) (bs.map PyData.bool) 0 := by
  clear g q
  induction bs with
  | nil => exact .nil
  | cons b r ih => exact .cons (.bl b) ih
 refine Yaj (.bl true) f (by omega) (by omega) g ?_
 rw [Zmx]
 exact q
theorem Zf6 (rss : List (List Int)) : ∃ xs, Fines (rss.map Za7) xs 1 := Fines.of _ fun d hd => by
 obtain ⟨ls, _, rfl⟩ := List.mem_map.mp hd
 exact ⟨_, Fine.tup (Zcb ls)⟩
theorem Zq4 {p r : Nat} {made : List (List Int)} (g1 : H[p]? = some (.lst (made.map Za7))) (g2 : H[r]? = some (.lst (made.map Za7))) (hl : ∀ ls ∈ made, ls.length ≤ 1000) (q : ∀ H', Fm [] H H' -> Q (.bl true) H') : wE (Zc5 [.ref p, .ref r] H) Q := by
 refine Zbc rfl ?_
 show wS (Zce [some (.ref p), some (.ref r), none] H) _
 unfold Zce
 obtain ⟨xs, f⟩ := Zf6 made
 fail "i"
 refine w_isi' rfl (tyR g1) (r := true) rfl ?_
 fail "g"
 refine Ya8 f (by omega) g1 g2 ?_
 fail "g"
 refine Zhg (fun σ H' => Fm [] H H' ∧ ∃ z, σ = [some (.ref p), some (.ref r), z]) (fun σ H' i => Zus (i.1.lst (by simp) g1)) _ (fun d hd σ H1 ⟨i1, z, i2⟩ => ?_) _ _ ⟨Fm.refl, _, rfl⟩ fun σ H1 ⟨i1, z, i2⟩ => ?_
 ·subst i2
  obtain ⟨ls, hls, rfl⟩ := List.mem_map.mp hd
  fail "i"
  refine ⟨ls.map .int, [], rfl, ?_⟩
  refine Zhj (fun _ => .bl false) (fun H' => H' = H1) (fun _ _ => Zjz) _ (fun y hy H2 j => ?_) _ rfl fun H2 j => ?_
  ·obtain ⟨x, _, rfl⟩ := List.mem_map.mp hy
   subst j
   fail "g"
   exact ⟨rfl, rfl⟩
  subst j
  refine ⟨by have := hl ls hls; simp; omega, ?_⟩
  rw [show (ls.map D.int).map (fun _ => D.bl false) = (ls.map fun _ => false).map D.bl by rw [List.map_map, List.map_map]; rfl]
  refine Zx8 last ?_
  rw [show (ls.map fun _ => false).any id = false by rw [List.any_map]; simp]
  fail "g"
  exact ⟨i1.trans (Fm.app _), _, rfl⟩
 ·subst i2
  fail "g"
  exact q _ i1
end
variable {σ : SD} {H : HD} {Q : D -> HD -> Prop}
theorem Ts.th {k : Nat} : ∀ {ds : List D} {W : Nat}, Ts [] H k W ds -> Th k H ds
 | [], W, _ => fun d hd => by cases hd
 | a :: r, W, h => fun d hd => by
  obtain ⟨x, y, t1, t2, _⟩ := h.two
  rcases List.mem_cons.mp hd with rfl | hd
  ·exact ⟨_, t1⟩
  ·exact Ts.th t2 d hd
section
variable {k W : Nat} {ds : List D}
theorem Ts.list (ts : Ts [] H k W ds) : ∃ xs, Shs xs W k ∧ ∀ H' p, Fm [] H H' -> H'[p]? = some (.lst ds) -> ∀ m, k + 1 ≤ m -> toP H' m (.ref p) = some (.list xs) := by
 obtain ⟨xs, e, s, _⟩ := ts
 refine ⟨xs, s, fun H' p y g m hm => ?_⟩
 match m, hm with
 | m + 1, hm =>
  rw [toP]
  simp only [g, e H' y m (by omega), Option.map_some]
theorem Ts.reprs (ts : Ts [] H k W ds) (hW : W ≤ 390000) (hk : k ≤ 29) : ∃ t : Str, ∀ H' p, Fm [] H H' -> H'[p]? = some (.lst ds) -> Zi7 [.ref p] H' = some (.str t, H') := by
 obtain ⟨xs, s, e⟩ := ts.list
 have sh : Sh (.list xs) W (k + 1) := ⟨s.lay, s.sh, Nat.succ_le_succ s.dep, s.lv, s.wt⟩
 refine ⟨(PyData.list xs).shown, fun H' p y g => ?_⟩
 unfold Zi7
 simp only [e H' p y g 30 (by omega), Zb, if_pos (sh.can' hW (by omega))]
theorem Ts.dats (ts : Ts [] H k W ds) (hk : k ≤ 29) : ∃ xs, PyData.canLay0 (.list xs) = true ∧ ∀ H' p, Fm [] H H' -> H'[p]? = some (.lst ds) -> DL.dat (.ref p) H' = some (.list xs) := by
 obtain ⟨xs, s, e⟩ := ts.list
 refine ⟨xs, s.lay, fun H' p y g => ?_⟩
 have d : (PyData.list xs).depth ≤ 30 := Nat.le_trans (Nat.succ_le_succ s.dep) (by omega)
 unfold DL.dat
 rw [e H' p y g 30 (by omega)]
 have l : PyData.canLay0 (.list xs) = true := s.lay
 simp [okP, l, d]
end
theorem Zsg (xs : List D) : Zib xs (some (-1)) none = xs.drop (xs.length - 1) := by
 unfold Zib
 have h1 : HT.sIx xs.length 0 (some (-1)) = xs.length - 1 := by
  show (if (-1 : Int) < 0 then ((-1 : Int) + (xs.length : Int)).toNat else min (-1 : Int).toNat xs.length) = xs.length - 1
  rw [if_pos (by omega)]
  omega
 have h2 : HT.sIx xs.length xs.length none = xs.length := rfl
 rw [h1, h2]
 exact List.take_of_length_le (by simp)
theorem Zt0 {p : Nat} {xs : List D} (g : H[p]? = some (.lst xs)) (q : Q (.ref H.length) (H ++ [.lst (xs.drop (xs.length - 1))])) : wE (slD (.ref p) (some (-1)) none H) Q :=
 ⟨_, _, by rw [← Zsg]; simp only [slD, g], q⟩
theorem Zu9 {r : Option (FD × SD × HD)} {k : SD -> HD -> Prop} {Z : FD -> SD -> HD -> Prop} (J : SD -> HD -> Prop) (h : wS r (Zr1 J Z)) (q : ∀ σ H, J σ H -> k σ H) : wS r (Zr1 k Z) := by
 obtain ⟨x, d, H', e, z⟩ := h
 refine ⟨x, d, H', e, ?_⟩
 cases x with
 | nx => exact q _ _ z
 | _ => exact z
theorem Zq0 {i m : Int} (q : Q (.bl (decide (0 ≤ i) && decide (i < m))) H) : wE (Za0 [.int i, .int m] H) Q := by
 refine Zbc rfl ?_
 show wS (Zbu [some (.int i), some (.int m)] H) _
 unfold Zbu
 fail "g"
 refine ⟨fun z => ?_, fun z => ?_⟩
 ·fail "g"
  simpa [z] using q
 ·fail "g"
  simpa [z] using q
theorem w_neB {a b : Bool} (q : Q (.bl (!(a == b))) H) : wE (neD (.bl a) (.bl b) H) Q := Zwo (.bl a) (.bl b) (by omega) (by omega) (by cases a <;> cases b <;> exact q)
noncomputable def Zo1 (made : List (List Int)) : Bool := match made.getLast? with
 | some ls => ls.isEmpty
 | none => false
theorem Zrr (ks : List D) (rss : List (List Int)) (ds : List D) : Zop ks rss ds = (mok ks rss [] ds && Zo1 (mad ks rss [] ds)) := rfl
theorem Zsk {p r : Nat} {made : List (List Int)} (g : H[p]? = some (.lst ((made.map Za7).drop ((made.map Za7).length - 1)))) (g2 : H[r]? = some (.lst [.tup []])) (q : Q (.bl (Zo1 made)) H) : wE (eqD (.ref p) (.ref r) H) Q := by
 have f2 : Fines [.tup []] [.tuple []] 1 := .cons (Fine.tup (h := 0) .nil) .nil
 cases em : made.reverse with
 | nil =>
  have e0 : made = [] := by simpa using em
  subst e0
  exact ⟨_, _, Zg8 ((Fines.nil (h := 0)).dat (by omega) g) (f2.dat (by omega) g2), q⟩
 | cons y r =>
  have e0 : made = r.reverse ++ [y] := by
   have := congrArg List.reverse em
   simpa using this
  subst e0
  have el : Zo1 (r.reverse ++ [y]) = y.isEmpty := by unfold Zo1; rw [List.getLast?_concat]
  rw [el] at q
  have ed : ((r.reverse ++ [y]).map Za7).drop (((r.reverse ++ [y]).map Za7).length - 1) = [Za7 y] := by
   rw [List.map_append]
   simp
  rw [ed] at g
  have f1 : Fines [Za7 y] [.tuple (y.map PyData.int)] 1 := .cons (Fine.tup (Zcb y)) .nil
  refine ⟨_, _, Zg8 (f1.dat (by omega) g) (f2.dat (by omega) g2), ?_⟩
  rw [show PyData.eqv (.list [.tuple (y.map PyData.int)]) (.list [.tuple []]) = y.isEmpty by cases y <;> simp [PyData.eqv, PyData.eqvAll]]
  exact q
section
variable {k W ps : Nat} {ks : List D} {rss : List (List Int)} {ds : List D}
theorem Zvw (c : CR ks rss) (g : H[ps]? = some (.lst ds)) (ts : Ts [] H k W ds) (hW : W ≤ 390000) (hk : k ≤ 29) (hl : ds.length ≤ 1000) (q : ∀ H', Fm [] H H' -> Q (.bl true) H') : wE (Zbl [Zaj ks rss, .ref ps] H) Q := by
 obtain ⟨t, ht⟩ := ts.reprs hW hk
 have th := ts.th
 have rl : ∀ ls ∈ mad ks rss [] ds, ls.length ≤ 1000 := fun ls h => by
  have := (Zjr c.hr ds [] (by simp) ls h).len
  have := c.h8
  omega
 refine Zbc rfl ?_
 show wS (Za3 [some (Zaj ks rss), some (.ref ps), none, none, none, none, none, none] H) _
 unfold Za3
 fail "g"
 refine Zhk c g th (by omega) hl fun p1 H1 g1 l1 x1 => ?_
 fail "g"
 refine Zgb (ht H1 ps x1 (x1.lst (by simp) g)) ?_
 fail "g"
 refine Zjw (x1.lst (by simp) g) ?_
 fail "g"
 have X1 : Fm [] H (H1 ++ [.lst ds]) := x1.trans (Fm.app _)
 refine Zot c last (th.fm X1) (by omega) hl fun H2 x2 => ?_
 have X2 := X1.trans x2
 have gp : H2[p1]? = some (.lst ((mad ks rss [] ds).map Za7)) := x2.lst (by simp) (appL g1)
 have lenE : (((mad ks rss [] ds).length : Int) == (ds.length : Int)) = mok ks rss [] ds := by
  cases ok : mok ks rss [] ds with
  | true => have := Zfs ks rss ds [] ok; simp at this; simp [this]
  | false => have := Zp5 ks rss ds [] ok; simp at this; simp; omega
 refine w_kn ?_
 refine w_seq (Zlu (fun σ' H' => Fm [] H H' ∧ H'[p1]? = some (.lst ((mad ks rss [] ds).map Za7)) ∧ σ' = [some (Zaj ks rss), some (.ref ps), some (.ref p1), some (.str t), some (.bl (Zop ks rss ds)), some (.bl (Zop ks rss ds)), none, none]) ?_ ?_)
 ·fail "g"
  refine Zt0 gp ?_
  fail "g"
  refine Zsk (appL last) last ?_
  have X4 := (X2.trans (Fm.app (S := []) [DO.lst (((mad ks rss [] ds).map Za7).drop (((mad ks rss [] ds).map Za7).length - 1))])).trans (Fm.app (S := []) [DO.lst [D.tup []]])
  cases le : Zo1 (mad ks rss [] ds) with
  | false =>
   fail "g"
   exact ⟨rfl, X4, appL (appL gp), by rw [Zrr, le, Bool.and_false]; rfl⟩
  | true =>
   fail "g"
   refine w_lenR (X4.lst (by simp) g) ?_
   fail "g"
   refine ⟨rfl, X4, appL (appL gp), ?_⟩
   rw [Zrr, le, Bool.and_true, List.length_map, lenE]
   rfl
 rintro _ H4 ⟨X4, gp4, rfl⟩
 have gs4 := X4.lst (by simp) g
 fail "i"
 refine Zgb (ht H4 ps X4 gs4) ?_
 fail "g"
 rw [show (t != t) = false by simp]
 fail "g"
 refine w_neB ?_
 rw [show (Zop ks rss ds == Zop ks rss ds) = true by simp]
 fail "g"
 refine Zjw gs4 ?_
 have X5 : Fm [] H (H4 ++ [.lst ds]) := X4.trans (Fm.app _)
 fail "i"
 rw [List.length_map, lenE]
 cases ok : mok ks rss [] ds with
 | true =>
  fail "g"
  refine Zi9 c last (th.fm X5) (by omega) hl ok fun p6 H6 g6 l6 x6 => ?_
  fail "g"
  refine Zq4 g6 (x6.lst (by simp) (appL gp4)) rl fun H7 x7 => ?_
  fail "g"
  have X7 := (X5.trans x6).trans x7
  refine Zgb (ht H7 _ X7 (x7.lst (by simp) (x6.lst (by simp) last))) ?_
  fail "g"
  rw [show (t == t) = true by simp]
  exact q _ X7
 | false =>
  have lt := Zp5 ks rss ds [] ok
  simp at lt
  fail "g"
  refine Zpd c last (th.fm X5) (by omega) hl ok fun H6 x6 => ?_
  have X6 := X5.trans x6
  fail "i"
  refine w_lenR (X6.lst (by simp) g) ?_
  fail "g"
  refine Zq0 ?_
  rw [show (decide ((0 : Int) ≤ ((mad ks rss [] ds).length : Int)) && decide (((mad ks rss [] ds).length : Int) < (ds.length : Int))) = true by simp; omega]
  fail "g"
  refine w_lenR (x6.lst (by simp) (appL gp4)) ?_
  fail "g"
  rw [List.length_map, show (((mad ks rss [] ds).length : Int) == ((mad ks rss [] ds).length : Int)) = true by simp]
  fail "i"
  refine Zgb (ht H6 _ X6 (x6.lst (by simp) last)) ?_
  fail "g"
  rw [show (t != t) = false by simp]
  fail "g"
  refine Zgb (ht H6 ps X6 (X6.lst (by simp) g)) ?_
  fail "g"
  rw [show (t != t) = false by simp]
  fail "g"
  refine Zjw (X6.lst (by simp) g) ?_
  have X8 : Fm [] H (H6 ++ [.lst ds]) := X6.trans (Fm.app _)
  fail "g"
  refine Zvt c last (th.fm X8) (by omega) hl ok fun H9 x9 => ?_
  fail "g"
  exact q _ (X8.trans x9)
end
variable {σ : SD} {H : HD} {Q : D -> HD -> Prop}
section
variable {k W ps : Nat} {ks : List D} {rss : List (List Int)} {ds : List D}
theorem Zyh (c : CR ks rss) (g : H[ps]? = some (.lst ds)) (ts : Ts [] H k W ds) (hk : k ≤ 29) (hl : ds.length ≤ 1000) (ok : mok ks rss [] ds = true) (q : ∀ H', Fm [] H H' -> Q (.bl true) H') : wE (Zcj [Zaj ks rss, .ref ps] H) Q := by
 obtain ⟨xs, lay, hd⟩ := ts.dats hk
 have th := ts.th
 have rl : ∀ ls ∈ mad ks rss [] ds, ls.length ≤ 1000 := fun ls h => by
  have := (Zjr c.hr ds [] (by simp) ls h).len
  have := c.h8
  omega
 have lm := Zfs ks rss ds [] ok
 refine Zbc rfl ?_
 show wS (Zba [some (Zaj ks rss), some (.ref ps), none, none, none, none] H) _
 unfold Zba
 fail "g"
 refine Zhk c g th (by omega) hl fun p1 H1 g1 l1 x1 => ?_
 fail "g"
 refine Zjw (x1.lst (by simp) g) ?_
 have X1 : Fm [] H (H1 ++ [.lst ds]) := x1.trans (Fm.app _)
 fail "g"
 refine ⟨_, rfl, ⟨by omega, by omega⟩, ?_⟩
 refine Zhg (fun σ H' => Fm [] H H' ∧ H'[p1]? = some (.lst ((mad ks rss [] ds).map Za7)) ∧ H'[H1.length]? = some (.lst ds) ∧ ∃ z4 z5, σ = [some (Zaj ks rss), some (.ref ps), some (.ref p1), some (.ref H1.length), z4, z5]) (fun _ _ _ => Zjz) _ (fun d hd0 σ H2 ⟨i1, i2, i3, z4, z5, i4⟩ => ?_) _ _ ⟨X1, appL g1, last, _, _, rfl⟩ fun σ H2 ⟨i1, i2, i3, z4, z5, i4⟩ => ?_
 ·subst i4
  fail "g"
  refine Zi9 c i3 (th.fm i1) (by omega) hl ok fun p6 H6 g6 l6 x6 => ?_
  fail "i"
  refine Zq4 g6 (x6.lst (by simp) i2) rl fun H7 x7 => ?_
  have X7 := (i1.trans x6).trans x7
  have y67 := x6.trans x7
  fail "g"
  refine ⟨_, _, Zgd (hd H7 H1.length X7 (y67.lst (by simp) i3)) (hd H7 ps X7 (X7.lst (by simp) g)), ?_⟩
  rw [Zgv (.list xs) lay]
  fail "g"
  have g7 := x7.lst (by simp) g6
  refine ⟨isl g7, ?_⟩
  fail "g"
  refine Zha g7 (by simp at lm ⊢; omega) ?_
  fail "g"
  have n1 : p6 ≠ p1 := by have := (List.getElem?_eq_some_iff.mp i2).1; omega
  have n2 : p6 ≠ H1.length := by have := (List.getElem?_eq_some_iff.mp i3).1; omega
  refine ⟨X7.new (Fm.set (S := [p6]) (by simp)) (fun q hq _ => by simp at hq; subst hq; have := i1.len; omega), Ya2 n1 (y67.lst (by simp) i2), Ya2 n2 (y67.lst (by simp) i3), _, _, rfl⟩
 ·subst i4
  fail "g"
  exact q _ i1
end
theorem shN : ∀ j : Fin 1200, (PyData.shown (.int (j.val : Int))).length ≤ 40 ∧ ((PyData.int (j.val : Int)).showable = true) ∧ (PyData.int (j.val : Int)).weight ≤ 40 := by decide +kernel
theorem T.nat {k : Nat} {i : Nat} (h : i < 1200) : T [] H k 40 (.int i) := by
 have h := shN ⟨i, h⟩
 exact ⟨.int i, fun H' _ m _ => Zh2 H' m i, rfl, h.2.1, Nat.zero_le _, by simp only [PyData.leavesShort]; exact decide_eq_true h.1, h.2.2⟩
noncomputable def Tm (d : D) : Prop := ∀ H : HD, T [] H 1 300 d
theorem tm2 {s : Str} {i : Nat} (h : (s.cps.toList.all fun c => decide (c < 0x110000)) = true) (h2 : (s.cps.toList.all fun c => decide (c < 16 ^ 8)) = true) (h3 : s.cps.size ≤ 40) (hi : i < 1200) : Tm (.tup [.str s, .int i]) := fun H =>
 (T.tup (Ts.cons (T.str (k := 0) h h2 h3) (Ts.cons (T.nat hi) (Ts.nil (w := 0))))).le (by omega) (by omega)
theorem tm4 {i j n : Nat} (hi : i < 1200) (hj : j < 1200) (hn : n < 1200) : Tm (.tup [.str "joined", .int i, .int j, .int n]) := fun H =>
 (T.tup (Ts.cons (T.str (k := 0) (by decide) (by decide) (by decide)) (Ts.cons (T.nat hi) (Ts.cons (T.nat hj) (Ts.cons (T.nat hn) (Ts.nil (w := 0))))))).le (by omega) (by omega)
structure Gd (d : D) : Prop where
 tm : Tm d
 sh : ∃ a b r, d = .tup (a :: b :: r) ∧ r.length ≤ 10
theorem Zmp {p r : Nat} {made : List (List Int)} (g1 : H[p]? = some (.lst (made.map Za7))) (g2 : H[r]? = some (.lst [])) (q : Q (.bl (!made.isEmpty)) H) : wE (neD (.ref p) (.ref r) H) Q := by
 obtain ⟨xs, f⟩ := Zf6 made
 exact Zpk f (by omega) g1 g2 (by cases made <;> exact q)
section
variable {pm pd : Nat} {ks : List D} {rss made : List (List Int)} {ds : List Int}
theorem Zwg (c : CR ks rss) (hr : rss.length ≤ 200) (hm : ∀ ls ∈ made, R ks.length ls) (hl : made.length ≤ 100) (gm : H[pm]? = some (.lst (made.map Za7))) (gd : H[pd]? = some (.lst (ds.map .int))) (hd : Zr3 ds) (h4 : 4 ≤ ds.length)
  (q0 : ∀ H', Fm [] H H' -> Q .non H') (q : ∀ d x H', Fm [] H H' -> stp ks rss made d = some x -> Gd d -> Q d H') : wE (Zci [Zaj ks rss, .ref pm, .ref pd] H) Q := by
 refine Zbc rfl ?_
 show wS (Za8 [some (Zaj ks rss), some (.ref pm), some (.ref pd), none, none, none, none, none] H) _
 unfold Za8
 refine w_seq (Zu9 (fun σ' H' => Fm [] H H' ∧ σ' = [some (Zaj ks rss), some (.ref pm), some (.ref pd), none, none, none, none, none]) ?_ ?_)
 ·(refine WP.w_if ?_; fail "g")
  refine Zax gd hd (by omega) (by omega) fun u u0 u1 => ?_
  fail "g"
  refine ⟨fun v => ?_, fun v => ?_⟩
  ·fail "g"
   refine Zmp (appL gm) last ?_
   have X1 : Fm [] H (H ++ [.lst []]) := Fm.app _
   fail "g"
   cases em : made.isEmpty with
   | true => fail "g"; exact ⟨X1, rfl⟩
   | false =>
    have lm : 0 < made.length := by cases made with | nil => cases em | cons a b => simp
    fail "g"
    refine Zax (appL gd) hd (by omega) (by omega) fun u2 u20 u21 => ?_
    fail "g"
    rw [List.length_map]
    refine w_mod (by omega) ?_
    fail "g"
    have m0 := Int.emod_nonneg u2 (show (made.length : Int) ≠ 0 by omega)
    have m1 := Int.emod_lt_of_pos u2 (show 0 < (made.length : Int) by omega)
    obtain ⟨i, hi⟩ : ∃ i : Nat, u2 % (made.length : Int) = i := ⟨(u2 % (made.length : Int)).toNat, by omega⟩
    rw [hi] at m1 ⊢
    exact q _ _ _ X1 (Zmz (i := i) (by omega)) ⟨tm2 (by decide) (by decide) (by decide) (by omega), _, _, _, rfl, by simp⟩
  ·fail "g"
   exact ⟨Fm.refl, rfl⟩
 rintro _ H' ⟨x, rfl⟩
 refine w_seq (Zu9 (fun σ' H' => Fm [] H H' ∧ ∃ z3 z4 z5 z6 z7, σ' = [some (Zaj ks rss), some (.ref pm), some (.ref pd), z3, z4, z5, z6, z7]) ?_ ?_)
 ·(refine WP.w_if ?_; fail "g")
  refine Zax (x.lst (by simp) gd) hd (by omega) (by omega) fun u u0 u1 => ?_
  fail "g"
  refine ⟨fun v => ?_, fun v => ?_⟩
  ·fail "g"
   refine Zmp (appL (x.lst (by simp) gm)) last ?_
   have X1 : Fm [] H (H' ++ [.lst []]) := x.trans (Fm.app _)
   fail "g"
   cases em : made.isEmpty with
   | true => fail "g"; exact ⟨X1, _, _, _, _, _, rfl⟩
   | false =>
    have lm : 0 < made.length := by cases made with | nil => cases em | cons a b => simp
    refine w_bnt ?_
    refine w_seq (w_set (Zq9 c.hk c.h8 ?_))
    have X2 : Fm [] H (H' ++ [.lst []] ++ [.lst ((nms ks).map .int)]) := X1.trans (Fm.app _)
    have gN : (H' ++ [.lst []] ++ [.lst ((nms ks).map .int)])[(H' ++ [DO.lst []]).length]? = some (.lst ((nms ks).map .int)) := last
    generalize (H' ++ [.lst []] ++ [.lst ((nms ks).map .int)]) = H2 at X2 gN ⊢
    generalize (H' ++ [DO.lst []]).length = pN at gN ⊢
    fail "g"
    refine w_lenR (X2.lst (by simp) gm) ?_
    fail "g"
    rw [List.length_map]
    refine ⟨_, rfl, ⟨by omega, by omega⟩, ?_⟩
    rw [Int.toNat_natCast]
    refine Zhg (fun σ H' => Fm [] H H' ∧ H'[pN]? = some (.lst ((nms ks).map .int)) ∧ ∃ z4 z5 z6 z7, σ = [some (Zaj ks rss), some (.ref pm), some (.ref pd), some (.ref pN), z4, z5, z6, z7]) (fun _ _ _ => Zjz) _ (fun d hd0 σ H3 ⟨i1, i2, z4, z5, z6, z7, i4⟩ => ?_) _ _ ⟨X2, gN, _, _, _, _, rfl⟩ fun σ H3 ⟨i1, i2, z4, z5, z6, z7, i4⟩ => ?_
    ·subst i4
     simp only [Zar, List.mem_map, List.mem_range] at hd0
     obtain ⟨tn, htn, rfl⟩ := hd0
     fail "g"
     refine Zax (i1.lst (by simp) gd) hd (by omega) (by omega) fun u2 u20 u21 => ?_
     fail "g"
     refine w_lenR (i1.lst (by simp) gm) ?_
     rw [List.length_map]
     fail "g"
     refine w_mod (by omega) ?_
     fail "g"
     refine Zax (i1.lst (by simp) gd) hd (by omega) (by omega) fun u3 u30 u31 => ?_
     fail "g"
     refine w_lenR (i1.lst (by simp) gm) ?_
     rw [List.length_map]
     fail "g"
     refine w_mod (by omega) ?_
     obtain ⟨i, hi⟩ : ∃ i : Nat, (u2 + (0 + (tn : Int))) % (made.length : Int) = i := ⟨((u2 + (0 + (tn : Int))) % (made.length : Int)).toNat, by have := Int.emod_nonneg (u2 + (0 + (tn : Int))) (show (made.length : Int) ≠ 0 by omega); omega⟩
     obtain ⟨j, hj⟩ : ∃ j : Nat, (u3 + 3 * (0 + (tn : Int))) % (made.length : Int) = j := ⟨((u3 + 3 * (0 + (tn : Int))) % (made.length : Int)).toNat, by have := Int.emod_nonneg (u3 + 3 * (0 + (tn : Int))) (show (made.length : Int) ≠ 0 by omega); omega⟩
     have li := Int.emod_lt_of_pos (u2 + (0 + (tn : Int))) (show 0 < (made.length : Int) by omega)
     have lj := Int.emod_lt_of_pos (u3 + 3 * (0 + (tn : Int))) (show 0 < (made.length : Int) by omega)
     rw [hi] at li
     rw [hj] at lj
     rw [hi, hj]
     fail "g"
     refine Zhg (fun σ H' => Fm [] H H' ∧ H'[pN]? = some (.lst ((nms ks).map .int)) ∧ ∃ z7, σ = [some (Zaj ks rss), some (.ref pm), some (.ref pd), some (.ref pN), some (.int (0 + (tn : Int))), some (.int i), some (.int j), z7]) (fun σ H' i => Zus i.2.1) _ (fun d hd0 σ H4 ⟨k1, k2, z7, k4⟩ => ?_) _ _ ⟨i1, i2, _, rfl⟩ fun σ H4 ⟨k1, k2, z7, k4⟩ => ?_
     ·subst k4
      obtain ⟨n, hn, rfl⟩ := List.mem_map.mp hd0
      obtain ⟨n1, n2, n3⟩ := Zl2.mp hn
      fail "i"
      have li' : i < made.length := by omega
      have lj' : j < made.length := by omega
      refine w_ixR (k1.lst (by simp) gm) (Zea li') ?_
      fail "g"
      refine w_ixR (k1.lst (by simp) gm) (Zea lj') ?_
      fail "g"
      refine Zh4 (hm _ (List.getElem_mem li')) (hm _ (List.getElem_mem lj')) c.h8 n1 fun H5 x5 => ?_
      fail "g"
      have X5 := k1.trans x5
      have es := Zpe (rss := rss) (ks := ks) (made := made) li' lj' ⟨n1, n2⟩ n3
      cases ej : Zeb made[i] made[j] n with
      | none =>
       refine w_isnN (b := true) rfl ?_
       fail "g"
       exact ⟨X5, x5.lst (by simp) k2, _, rfl⟩
      | some y =>
       refine w_isnN (b := false) rfl ?_
       fail "g"
       obtain ⟨m, rfl⟩ : ∃ m : Nat, n = m := ⟨n.toNat, by omega⟩
       rw [ej] at es
       have h8 := c.h8
       exact q _ _ _ X5 es ⟨tm4 (by omega) (by omega) (by omega), _, _, _, rfl, by simp⟩
     ·subst k4
      fail "g"
      exact ⟨k1, k2, _, _, _, _, rfl⟩
    ·subst i4
     fail "g"
     exact ⟨i1, _, _, _, _, _, rfl⟩
  ·fail "g"
   exact ⟨x, _, _, _, _, _, rfl⟩
 rintro _ H' ⟨x, z3, z4, z5, z6, z7, rfl⟩
 obtain ⟨xs, f⟩ := Zf6 rss
 fail "i"
 refine Zp9 f (by omega) ?_
 fail "g"
 cases er : rss with
 | nil => fail "g"; exact q0 _ x
 | cons y r =>
  rw [← er]
  fail "g"
  rw [show (rss.map Za7).isEmpty = false by rw [er]; rfl]
  fail "g"
  refine Zax (x.lst (by simp) gd) hd (by omega) (by omega) fun u u0 u1 => ?_
  fail "g"
  rw [List.length_map]
  have lr : 0 < rss.length := by rw [er]; simp
  refine w_mod (by omega) ?_
  fail "g"
  have m0 := Int.emod_nonneg u (show (rss.length : Int) ≠ 0 by omega)
  have m1 := Int.emod_lt_of_pos u (show 0 < (rss.length : Int) by omega)
  obtain ⟨i, hi⟩ : ∃ i : Nat, u % (rss.length : Int) = i := ⟨(u % (rss.length : Int)).toNat, by omega⟩
  rw [hi] at m1 ⊢
  exact q _ _ _ x (Zoz (i := i) (by omega)) ⟨tm2 (by decide) (by decide) (by decide) (by omega), _, _, _, rfl, by simp⟩
end
variable {σ : SD} {H : HD} {Q : D -> HD -> Prop}
section
variable {ks : List D} {rss : List (List Int)} {ns : List Int}
theorem Zks {many : Nat} (c : CR ks rss) (hr : rss.length ≤ 200) (hm : many ≤ 14) (q : ∀ p ds H', H'[p]? = some (.lst ds) -> mok ks rss [] ds = true -> (∀ d ∈ ds, Gd d) -> ds.length ≤ 14 -> Fm [] H H' -> Q (.ref p) H') : wE (Zb7 [Zaj ks rss, .fl (ns.map .int), .int 2, .int many] H) Q := by
 refine Zbc rfl ?_
 show wS (Za1 [some (Zaj ks rss), some (.fl (ns.map .int)), some (.int 2), some (.int many), none, none, none, none, none] H) _
 unfold Za1
 fail "g"
 refine ⟨_, rfl, ⟨by omega, by omega⟩, ?_⟩
 rw [Int.toNat_natCast]
 have l5 : (H ++ [DO.lst []]).length = H.length + 1 := by simp
 rw [l5]
 refine Zd7 (fun d t σ H' => ∃ (ds : List D) (z6 z7 z8 : Option D), (∀ x ∈ t, ∃ i : Nat, x = .int i ∧ i ≤ 14) ∧ d.length + t.length = many ∧ ds.length ≤ d.length ∧ mok ks rss [] ds = true ∧ (∀ d ∈ ds, Gd d) ∧ H'[H.length]? = some (.lst ds) ∧ H'[H.length + 1]? = some (.lst ((mad ks rss [] ds).map Za7)) ∧ Fm [] H H' ∧ σ = [some (Zaj ks rss), some (.fl (ns.map .int)), some (.int 2), some (.int many), some (.ref H.length), some (.ref (H.length + 1)), z6, z7, z8]) (fun _ _ _ _ _ => Zjz) (fun d x t σ H1 ⟨ds, z6, z7, z8, i1, i2, i3, i4, i5, i6, i7, i8, i9⟩ => ?_) (fun d σ H1 ⟨ds, z6, z7, z8, i1, i2, i3, i4, i5, i6, i7, i8, i9⟩ => ?_) _ [] _ _ ⟨[], _, _, _, fun x hx => ?_, by simp [Zar], Nat.le_refl _, rfl, by simp, appL last, by rw [← l5]; exact last, (Fm.app _).trans (Fm.app _), rfl⟩
 ·subst i9
  obtain ⟨i, rfl, hi⟩ := i1 x (by simp)
  have lm := Zfs ks rss ds [] i4
  simp at i2 lm
  fail "g"
  refine w_at (by omega) (by omega) fun cell => ?_
  fail "g"
  refine Zfk (many := 24) (by omega) fun dg pd H2 l2 d2 g2 n2 x2 => ?_
  fail "g"
  refine Zlx (k := 14) g2 ?_
  rw [← List.map_drop]
  fail "g"
  have X3 : Fm [] H1 (H2 ++ [.lst ((dg.drop 14).map .int)]) := x2.trans (Fm.app _)
  have g4 := X3.lst (by simp) i6
  have g5 := X3.lst (by simp) i7
  have tl : ∀ y ∈ t, ∃ i : Nat, y = .int i ∧ i ≤ 14 := fun y hy => i1 y (by simp [hy])
  refine Zwg c hr (Zjr c.hr ds [] (by simp)) (by omega) g5 last (d2.drop 14) (by simp; omega) (fun H4 x4 => ?_) fun s y H4 x4 e gd => ?_
  ·have X4 := X3.trans x4
   fail "i"
   exact ⟨ds, _, _, _, tl, by simp; omega, by simp; omega, i4, i5, X4.lst (by simp) i6, X4.lst (by simp) i7, i8.trans X4, rfl⟩
  ·have X4 := X3.trans x4
   obtain ⟨a, b, r, rfl, _⟩ := gd.sh
   obtain ⟨s1, s2⟩ := Zgy i4 e
   have g4 := X4.lst (by simp) i6
   have g5 := X4.lst (by simp) i7
   fail "i"
   refine ⟨isl g4, ?_⟩
   fail "g"
   refine Zha g4 (by omega) ?_
   fail "g"
   have n45 : H.length ≠ H.length + 1 := by omega
   have g5' : (H4.set H.length (.lst (ds ++ [.tup (a :: b :: r)])))[H.length + 1]? = some (.lst ((mad ks rss [] ds).map Za7)) := Ya2 n45 g5
   refine ⟨isl g5', ?_⟩
   fail "g"
   refine Zln c.hk c.h8 (Zjr c.hr ds [] (by simp)) g5' (gd.tm _) (by omega) fun H6 x6 => ?_
   rw [e]
   show wA _ _
   fail "g"
   have g56 := x6.lst (by simp) g5'
   refine Zha g56 (by simp; omega) ?_
   fail "g"
   refine ⟨ds ++ [.tup (a :: b :: r)], _, _, _, tl, by simp; omega, by simp; omega, s1, fun d hd => ?_, Ya2 (by omega) (x6.lst (by simp) (Zrg g4)), ?_, ?_, rfl⟩
   ·rcases List.mem_append.mp hd with z | z
    ·exact i5 d z
    ·simp at z; subst z; exact gd
   ·rw [Zrg g56, s2]
    simp
    rfl
   ·have y1 := (i8.trans X4).new (Fm.set (S := [H.length]) (p := H.length) (o := .lst (ds ++ [.tup (a :: b :: r)])) (by simp)) (fun q hq _ => by simp at hq; subst hq; exact Nat.le_refl _)
    exact (y1.trans x6).new (Fm.set (S := [H.length + 1]) (by simp)) (fun q hq _ => by simp at hq; subst hq; exact Nat.le_succ _)
 ·simp only [Zar, List.mem_map, List.mem_range] at hx
  obtain ⟨k, hk, rfl⟩ := hx
  exact ⟨k, by simp, by omega⟩
 ·subst i9
  simp at i2
  fail "g"
  exact q _ _ _ i6 i4 i5 (by omega) i8
noncomputable def gneg (d : D) : D := match d with
 | .tup xs => .tup (xs.map fun x => match x with
  | .int i => .int (-i)
  | x => x)
 | d => d
theorem Zt2 (ls : List Int) : gneg (Za7 ls) = Za7 (ls.map fun x => -x) := by
 show D.tup _ = D.tup _
 rw [List.map_map, List.map_map]
 rfl
theorem R.neg {M : Nat} {ls : List Int} (h : R M ls) : R M (ls.map fun x => -x) := by
 refine ⟨?_, fun x hx => ?_⟩
 ·rw [List.map_map]
  have : (Zbn ∘ fun x : Int => -x) = Zbn := by funext x; exact Zju x
  rw [this]
  exact h.nd
 ·obtain ⟨y, hy, rfl⟩ := List.mem_map.mp hx
  rw [Zju]
  exact h.rg y hy
theorem Zyv {xs : List D} {k : Int} (h1 : 0 ≤ k) (h2 : k ≤ 1000) (h3 : xs.length ≤ 1000) (q : Q (.tup (List.replicate k.toNat xs).flatten) H) : wE (Zkk (.tup xs) (.int k) H) Q := ⟨_, _, muT (by omega) h2 h3, q⟩
theorem Zod {one : Int} (c : CR ks rss) (hr : rss.length ≤ 20) (h0 : 0 ≤ one) (q : ∀ rs H', CR ks rs -> rs.length ≤ 120 -> Fm [] H H' -> Q (Zaj ks rs) H') : wE (Zcu [Zaj ks rss, .int one] H) Q := by
 refine Zbc rfl ?_
 show wS (Zbi [some (Zaj ks rss), some (.int one), none, none, none] H) _
 unfold Zbi
 have back : Q (Zaj ks rss) H := q rss H c (by omega) Fm.refl
 have h8 := c.h8
 refine w_seq (w_asg ?_)
 fail "g"
 show wG (gTp 2 (gCn (gNm 3) (gCn (gNm 4) gNl)) (.tup [.tup ks, .tup (rss.map Za7)]) _ H) _
 fail "i"
 fail "g"
 refine ⟨fun v => ?_, fun v => ?_⟩
 ·fail "g"; exact back
 fail "g"
 refine ⟨fun v => ?_, fun v => ?_⟩
 ·fail "g"; exact back
 fail "g"
 obtain ⟨m, hm⟩ : ∃ m : Nat, 1 + one / 6 % 20 = m := ⟨(1 + one / 6 % 20).toNat, by omega⟩
 rw [hm]
 fail "g"
 rw [← List.map_take]
 refine Zhj gneg (fun H' => Fm [] H H') (fun _ _ => Zjz) _ (fun y hy H2 j => ?_) _ Fm.refl fun H2 j => ?_
 ·obtain ⟨ls, hls, rfl⟩ := List.mem_map.mp hy
  have ll := (c.hr ls (List.mem_of_mem_take hls)).len
  show wE (eCB Zcn _ [some (.tup (ls.map .int))] H2) _
  fail "g"
  refine Zhj (fun x => match x with | .int i => .int (-i) | x => x) (fun H' => H' = H2) (fun _ _ => Zjz) _ (fun z hz H3 j3 => ?_) _ rfl fun H3 j3 => ?_
  ·obtain ⟨x, _, rfl⟩ := List.mem_map.mp hz
   subst j3
   fail "g"
   exact ⟨rfl, rfl⟩
  ·subst j3
   refine ⟨by simp; omega, ?_⟩
   fail "g"
   exact ⟨rfl, j.trans (Fm.app _)⟩
 ·have e1 : ((rss.take m).map Za7).map gneg = ((rss.take m).map fun ls => ls.map fun x => -x).map Za7 := by
   rw [List.map_map, List.map_map]
   exact List.map_congr_left fun ls _ => Zt2 ls
  rw [e1]
  have lt : (rss.take m).length ≤ 20 := by rw [List.length_take]; omega
  refine ⟨by simp at lt ⊢; omega, ?_⟩
  fail "g"
  refine Zyv (by omega) (by omega) (by simp at lt ⊢; omega) ?_
  fail "g"
  rw [← List.map_append]
  have hn : (1 + one / 120 % 3).toNat ≤ 3 := by omega
  generalize (1 + one / 120 % 3).toNat = n at hn
  have e2 : (List.replicate n ((rss ++ (rss.take m).map fun ls => ls.map fun x => -x).map Za7)).flatten = ((List.replicate n (rss ++ (rss.take m).map fun ls => ls.map fun x => -x)).flatten).map Za7 := by
   rw [List.map_flatten, List.map_replicate]
  rw [e2]
  have ln : (List.replicate n (rss ++ (rss.take m).map fun ls => ls.map fun x => -x)).flatten.length ≤ 120 := by
   have : n = 0 ∨ n = 1 ∨ n = 2 ∨ n = 3 := by omega
   simp only [List.length_take] at lt
   rcases this with rfl | rfl | rfl | rfl <;> simp [List.replicate_succ] <;> omega
  refine q _ _ ⟨c.hk, c.h8, fun ls h => ?_, by omega⟩ ln (j.trans (Fm.app _))
  obtain ⟨l, hl, hm⟩ := List.mem_flatten.mp h
  rw [List.eq_of_mem_replicate hl] at hm
  rcases List.mem_append.mp hm with z | z
  ·exact c.hr ls z
  ·obtain ⟨y, hy, rfl⟩ := List.mem_map.mp z
   exact (c.hr y (List.mem_of_mem_take hy)).neg
end
variable {σ : SD} {H : HD} {Q : D -> HD -> Prop}
theorem Ziq {p : Nat} {xs : List D} {r n : Int} (g : H[p]? = some (.lst xs)) (hn : n = xs.length) (h0 : 0 < n) (q : ∀ d ∈ xs, Q d H) : wE (ixD (.ref p) (.int (r % n)) H) Q := by
 have m0 := Int.emod_nonneg r (show n ≠ 0 by omega)
 have m1 := Int.emod_lt_of_pos r h0
 obtain ⟨i, hi⟩ : ∃ i : Nat, r % n = i := ⟨(r % n).toNat, by omega⟩
 rw [hi] at m1 ⊢
 have li : i < xs.length := by omega
 exact w_ixR g (Zdw (List.getElem?_eq_getElem li)) (q _ (List.getElem_mem li))
theorem fa {P : D -> Prop} {a : D} {r : List D} (h : P a) (t : ∀ d ∈ r, P d) : ∀ d ∈ a :: r, P d := List.forall_mem_cons.mpr ⟨h, t⟩
theorem fn {P : D -> Prop} : ∀ d ∈ ([] : List D), P d := fun _ h => by cases h
noncomputable abbrev Pa (H : HD) (d : D) : Prop := T [] H 0 70 d
theorem pI {i : Int} (h0 : -206 ≤ i) (h1 : i ≤ 206) : Pa H (.int i) := (T.int h0 h1).le (Nat.le_refl _) (by omega)
theorem pN {i : Nat} (h : i < 1200) : Pa H (.int i) := (T.nat h).le (Nat.le_refl _) (by omega)
theorem pB {b : Bool} : Pa H (.bl b) := T.bl.le (Nat.le_refl _) (by omega)
theorem pO : Pa H .non := T.non.le (Nat.le_refl _) (by omega)
theorem pS {x : Str} (h : (x.cps.toList.all fun c => decide (c < 0x110000)) = true) (h2 : (x.cps.toList.all fun c => decide (c < 16 ^ 8)) = true) (h3 : x.cps.size ≤ 40) : Pa H (.str x) := (T.str h h2 h3).le (Nat.le_refl _) (by omega)
noncomputable abbrev Wr (H : HD) (d : D) : Prop := T [] H 4 1000 d
theorem Pa.wr {d : D} (h : Pa H d) : Wr H d := h.le (by omega) (by omega)
theorem w2 {a b : D} (x : Pa H a) (y : Pa H b) : Wr H (.tup [a, b]) := (T.tup (Ts.cons x (Ts.cons y (Ts.nil (w := 0))))).le (by omega) (by omega)
theorem w1 {a : D} (x : Pa H a) : Wr H (.tup [a]) := (T.tup (Ts.cons x (Ts.nil (w := 0)))).le (by omega) (by omega)
theorem w4 {a b c e : D} (x : Pa H a) (y : Pa H b) (z : Pa H c) (v : Pa H e) : Wr H (.tup [a, b, c, e]) := (T.tup (Ts.cons x (Ts.cons y (Ts.cons z (Ts.cons v (Ts.nil (w := 0))))))).le (by omega) (by omega)
theorem w0 : Wr H (.tup []) := (T.tup (Ts.nil (k := 0) (w := 0))).le (by omega) (by omega)
theorem Zve : ∀ ls : List Int, (∀ x ∈ ls, Zbn x ≤ 8) -> Ts [] H 0 (ls.length * 41) (ls.map .int)
 | [], _ => Ts.nil
 | l :: r, h => by
  have hl := h l (by simp)
  have : -206 ≤ l ∧ l ≤ 206 := by unfold Zbn at hl; split at hl <;> omega
  exact (Ts.cons (T.int (k := 0) this.1 this.2) (Zve r fun x hx => h x (by simp [hx]))).le (Nat.le_refl _) (by simp; omega)
theorem t_row {M : Nat} {ls : List Int} (h : R M ls) (h8 : M ≤ 8) : T [] H 1 340 (Za7 ls) := by
 have l := h.len
 exact (T.tup (Zve ls fun x hx => by have := (h.rg x hx).2; omega)).le (Nat.le_refl _) (by omega)
theorem Ztq (xs : List D) : Zib xs none (some (-1)) = xs.take (xs.length - 1) := by
 unfold Zib
 have h1 : HT.sIx xs.length xs.length (some (-1)) = xs.length - 1 := by
  show (if (-1 : Int) < 0 then ((-1 : Int) + (xs.length : Int)).toNat else min (-1 : Int).toNat xs.length) = xs.length - 1
  rw [if_pos (by omega)]
  omega
 have h2 : HT.sIx xs.length 0 none = 0 := rfl
 rw [h1, h2]
 simp
theorem Zyg {a b : D} {r : List D} {q1 q2 : Nat} (tm : Tm (.tup (a :: b :: r))) (g1 : H[q1]? = some (.lst (a :: b :: r))) (g2 : H[q2]? = some (.lst [a])) :
  ∀ d ∈ [D.non, D.ref q1, D.tup (a :: b :: r ++ [D.int 0]), D.tup (List.take ((a :: b :: r).length - 1) (a :: b :: r)), D.tup [], D.tup [D.str "least", D.int 0], D.int 7, D.tup [D.tup (a :: b :: r)], D.tup [D.str "row"], D.tup [D.non, D.int 0]] ++ [D.tup ([D.ref q2] ++ b :: r)], Wr H d := by
 have t0 := tm H
 have ts := t0.parts
 obtain ⟨x, y, ta, tr, hxy⟩ := ts.two
 have r1 : Wr H (.ref q1) := (T.lst (by simp) g1 ts).le (by omega) (by omega)
 have r2 : Wr H (.tup (a :: b :: r ++ [D.int 0])) := (T.tup (Ts.app ts (Ts.cons (T.int (k := 1) (i := 0) (by omega) (by omega)) (Ts.nil (w := 0))))).le (by omega) (by omega)
 have r3 : Wr H (.tup (List.take ((a :: b :: r).length - 1) (a :: b :: r))) := (T.tup (ts.take _)).le (by omega) (by omega)
 have r4 : Wr H (.tup [.tup (a :: b :: r)]) := (T.tup (Ts.cons t0 (Ts.nil (w := 0)))).le (by omega) (by omega)
 have r5 : T [] H 2 (300 + 0 + 1) (.ref q2) := (T.lst (by simp) g2 (Ts.cons ta (Ts.nil (w := 0)))).le (by omega) (by omega)
 have r6 : Wr H (.tup ([D.ref q2] ++ b :: r)) := (T.tup (Ts.cons r5 (tr.le (k' := 2) (by omega) (Nat.le_refl _)))).le (by omega) (by omega)
 have z0 : Pa H (.int 0) := pI (by omega) (by omega)
 exact fa pO.wr (fa r1 (fa r2 (fa r3 (fa w0 (fa (w2 (pS (by decide) (by decide) (by decide)) z0) (fa (pI (i := 7) (by omega) (by omega)).wr (fa r4 (fa (w1 (pS (by decide) (by decide) (by decide))) (fa (w2 pO z0) (fa r6 fn))))))))))
section
variable {ks : List D} {rss made : List (List Int)} {ds : List Int} {pm pd : Nat} {a b : D} {r : List D}
theorem Zty (c : CR ks rss) (hr : rss.length ≤ 120) (hm : made.length ≤ 1000) (gm : H[pm]? = some (.lst (made.map Za7))) (gd : H[pd]? = some (.lst (ds.map .int))) (hd : Zr3 ds) (h5 : 5 ≤ ds.length) (tm : Tm (.tup (a :: b :: r)))
  (hl : r.length ≤ 10) (q : ∀ d H', Fm [] H H' -> Wr H' d -> Q d H') : wE (Zas [Zaj ks rss, .ref pm, .tup (a :: b :: r), .ref pd] H) Q := by
 have h8 := c.h8
 refine Zbc rfl ?_
 show wS (Za2 [some (Zaj ks rss), some (.ref pm), some (.tup (a :: b :: r)), some (.ref pd), none, none, none, none, none, none] H) _
 unfold Za2
 fail "g"
 refine Zox (by omega) (by omega) (by decide) ?_
 fail "g"
 refine Zax (appL gd) hd (by omega) (by omega) fun u u0 u1 => ?_
 fail "g"
 have X1 : Fm [] H (H ++ [DO.lst [.int ((made.map Za7).length : Int), .int (-1), .bl true, .non, .str "0", .int (10 ^ (20 : Int).toNat), .int (((made.map Za7).length : Int) + 1)]]) := Fm.app _
 refine Ziq last rfl (by simp) ?_
 have big : ∀ H : HD, Pa H (.int (10 ^ (20 : Int).toNat)) := fun H => T.big
 have allF : ∀ d ∈ [D.int ((made.map Za7).length : Int), .int (-1), .bl true, .non, .str "0", .int (10 ^ (20 : Int).toNat), .int (((made.map Za7).length : Int) + 1)], ∀ H : HD, Pa H d := by
  rw [List.length_map]
  exact fa (fun H => pN (by omega)) (fa (fun H => pI (by omega) (by omega)) (fa (fun H => pB) (fa (fun H => pO) (fa (fun H => pS (by decide) (by decide) (by decide)) (fa big (fa (fun H => by rw [show ((made.length : Int) + 1) = ((made.length + 1 : Nat) : Int) by omega]; exact pN (by omega)) fn))))))
 intro far hfar
 have pf := allF far hfar
 clear allF hfar
 generalize (H ++ [DO.lst [.int ((made.map Za7).length : Int), .int (-1), .bl true, .non, .str "0", .int (10 ^ (20 : Int).toNat), .int (((made.map Za7).length : Int) + 1)]]) = H1 at X1 ⊢
 have gd1 := X1.lst (by simp) gd
 have gm1 := X1.lst (by simp) gm
 fail "i"
 refine Zax gd1 hd (by omega) (by omega) fun v v0 v1 => ?_
 fail "g"
 refine ⟨fun z => ?_, fun z => ?_⟩
 ·fail "g"
  refine Zpy ?_
  fail "g"
  refine Zgb (d := .tup (Zib (a :: b :: r) none (some (-1)))) rfl ?_
  rw [Ztq]
  fail "g"
  refine Zll ?_
  fail "g"
  refine Zgb (d := .tup (b :: r)) (by rw [show (some (1 : Int)) = some ((1 : Nat) : Int) from rfl]; exact sllo) ?_
  fail "g"
  refine Zef (appL (appL last)) last (by simp) ?_
  fail "g"
  refine Zax (by fail "lk") hd (by omega) (by omega) fun v v0 v1 => ?_
  fail "g"
  refine Ziq last (by simp) (by omega) ?_
  intro d hd1
  fail "g"
  exact q d _ (((((X1.trans (Fm.app _)).trans (Fm.app _)).trans (Fm.app _)).trans (Fm.app _)).trans (Fm.app _)) (Zyg tm (appL (appL (appL (appL last)))) (appL (appL last)) d hd1)
 fail "i"
 refine Zax gd1 hd (by omega) (by omega) fun v v0 v1 => ?_
 fail "g"
 refine ⟨fun z => ?_, fun z => ?_⟩
 ·fail "g"
  exact q _ _ X1 (w2 (pS (by decide) (by decide) (by decide)) (pf _))
 fail "i"
 refine Zax gd1 hd (by omega) (by omega) fun v v0 v1 => ?_
 fail "g"
 refine ⟨fun z => ?_, fun z => ?_⟩
 ·fail "g"
  refine Zax (appL gd1) hd (by omega) (by omega) fun v v0 v1 => ?_
  fail "g"
  refine Ziq last rfl (by simp) (fa ?_ (fa ?_ (fa ?_ fn))) <;> (fail "g"; exact q _ _ (X1.trans (Fm.app _)) (w4 (pS (by decide) (by decide) (by decide)) (by first | exact pf _ | exact pI (by omega) (by omega)) (by first | exact pf _ | exact pI (by omega) (by omega)) (by first | exact pf _ | exact pI (by omega) (by omega))))
 fail "i"
 refine Zax gd1 hd (by omega) (by omega) fun v v0 v1 => ?_
 fail "g"
 refine ⟨fun z => ?_, fun z => ?_⟩
 ·fail "g"
  refine Zax gd1 hd (by omega) (by omega) fun u3 u30 u31 => ?_
  fail "g"
  refine w_mod (by omega) ?_
  have m3 := Int.emod_nonneg u3 (show (ks.length : Int) + 1 ≠ 0 by omega)
  have m4 := Int.emod_lt_of_pos u3 (show 0 < (ks.length : Int) + 1 by omega)
  generalize u3 % ((ks.length : Int) + 1) = e3 at m3 m4 ⊢
  fail "g"
  refine Zax (appL gd1) hd (by omega) (by omega) fun v v0 v1 => ?_
  fail "g"
  refine Ziq last (by simp) (by omega) ?_
  intro nm hnm
  have pn : ∀ H : HD, Pa H nm := fa (P := fun d => ∀ H : HD, Pa H d) (fun H => pI (by omega) (by omega)) (fa (fun H => pI (by omega) (by omega)) (fa (fun H => pI (by omega) (by omega)) (fa (fun H => pI (by omega) (by omega)) fn))) nm hnm
  rw [List.length_map]
  obtain ⟨mm, hmm, m5, m6⟩ : ∃ mm : Nat, (if (made.length : Int) > 1 then (made.length : Int) else 1) = mm ∧ 0 < mm ∧ mm ≤ 1000 := by
   split
   ·exact ⟨made.length, rfl, by omega, hm⟩
   ·exact ⟨1, rfl, by omega, by omega⟩
  rw [hmm]
  have part : ∀ (w : Int), ∃ i : Nat, w % (mm : Int) = i ∧ i < 1200 := fun w => ⟨(w % (mm : Int)).toNat, by have := Int.emod_nonneg w (show (mm : Int) ≠ 0 by omega); omega, by have := Int.emod_lt_of_pos w (show 0 < (mm : Int) by omega); omega⟩
  fail "g"
  refine Zax (appL gd1) hd (by omega) (by omega) fun y y0 y1 => ?_
  fail "g"
  refine w_mod (by omega) ?_
  obtain ⟨i, hi, li⟩ := part y
  rw [hi]
  fail "g"
  refine Zax (appL gd1) hd (by omega) (by omega) fun y' y0 y1 => ?_
  fail "g"
  refine w_mod (by omega) ?_
  obtain ⟨j, hj, lj⟩ := part y'
  rw [hj]
  fail "g"
  exact q _ _ (X1.trans (Fm.app _)) (w4 (pS (by decide) (by decide) (by decide)) (pN li) (pN lj) (pn _))
 fail "i"
 refine Zax gd1 hd (by omega) (by omega) fun v v0 v1 => ?_
 fail "g"
 refine ⟨fun z => ?_, fun z => ?_⟩
 ·fail "g"
  refine Zax (appL gd1) hd (by omega) (by omega) fun v v0 v1 => ?_
  fail "g"
  refine Ziq last (by simp) (by omega) ?_
  rw [List.length_map]
  have ro : ∀ {H : HD} {d : D}, Pa H d → Wr H (.tup [.str "row", d]) := fun h => w2 (pS (by decide) (by decide) (by decide)) h
  have te : ∀ H : HD, Wr H (.tup [.str "term", .tup []]) := fun H => (T.tup (Ts.cons (T.str (k := 1) (x := "term") (by decide) (by decide) (by decide)) (Ts.cons (T.tup (Ts.nil (k := 0) (w := 0))) (Ts.nil (w := 0))))).le (by omega) (by omega)
  intro d hd1
  fail "g"
  refine q d _ (X1.trans (Fm.app _)) ?_
  exact fa (P := Wr _) (ro (pN (by omega))) (fa (ro (pI (by omega) (by omega))) (fa (ro pB) (fa (ro (pS (by decide) (by decide) (by decide))) (fa (te _) (fa (ro pO) fn))))) d hd1
 fail "g"
 have er : rss.map Za7 ++ [D.tup []] = (rss ++ [[]]).map Za7 := by rw [List.map_append]; rfl
 rw [er]
 have lrs : (rss ++ [[]]).length = rss.length + 1 := by simp
 have hrs : ∀ ls ∈ rss ++ [[]], R ks.length ls := fun ls h => by
  rcases List.mem_append.mp h with z | z
  ·exact c.hr ls z
  ·simp at z; subst z; exact ⟨.nil, by simp⟩
 generalize rss ++ [[]] = rs at lrs hrs ⊢
 refine Zax gd1 hd (by omega) (by omega) fun v v0 v1 => ?_
 fail "g"
 rw [List.length_map]
 refine w_mod (by omega) ?_
 have m0 := Int.emod_nonneg v (show (rs.length : Int) ≠ 0 by omega)
 have m1 := Int.emod_lt_of_pos v (show 0 < (rs.length : Int) by omega)
 obtain ⟨i, hi⟩ : ∃ i : Nat, v % (rs.length : Int) = i := ⟨(v % (rs.length : Int)).toNat, by omega⟩
 rw [hi] at m1 ⊢
 have li : i < rs.length := by omega
 refine w_ixT (Zea li) ?_
 fail "g"
 refine Zax gd1 hd (by omega) (by omega) fun v' v0' v1' => ?_
 fail "g"
 rw [List.length_map]
 refine w_mod (by omega) ?_
 have m0' := Int.emod_nonneg v' (show (rs.length : Int) ≠ 0 by omega)
 have m1' := Int.emod_lt_of_pos v' (show 0 < (rs.length : Int) by omega)
 generalize v' % (rs.length : Int) = j at m0' m1'
 fail "g"
 refine Zox (by omega) (by omega) (by decide) ?_
 fail "g"
 refine Zax (appL (appL gd1)) hd (by omega) (by omega) fun v v0 v1 => ?_
 fail "g"
 refine Ziq last (by simp) (by omega) ?_
 intro d hd1
 fail "g"
 refine q _ _ ((X1.trans (Fm.app _)).trans (Fm.app _)) ?_
 have ro : ∀ {H : HD} {d : D}, T [] H 2 400 d → Wr H (.tup [.str "row", d]) := fun h => (T.tup (Ts.cons (T.str (k := 2) (x := "row") (by decide) (by decide) (by decide)) (Ts.cons h (Ts.nil (w := 0))))).le (by omega) (by omega)
 rw [List.length_map] at hd1 ⊢
 refine ro (fa (P := T [] _ 2 400) ((t_row (hrs _ (List.getElem_mem li)) h8).le (by omega) (by omega)) (fa ((T.tup (Ts.cons (T.int (k := 0) (i := j) (by omega) (by omega)) (Ts.nil (w := 0)))).le (by omega) (by omega)) (fa ((T.lst (by simp) (appL last) (Ts.cons (T.int (k := 0) (i := 0) (by omega) (by omega)) (Ts.nil (w := 0)))).le (by omega) (by omega)) (fa ((big _).le (by omega) (by omega)) (fa ((T.int (k := 0) (by omega) (by omega)).le (by omega) (by omega)) fn)))) d hd1)
end
variable {σ : SD} {H : HD} {Q : D -> HD -> Prop}
theorem Zna {k w : Nat} : ∀ ds : List D, (∀ d ∈ ds, T [] H k w d) -> Ts [] H k (ds.length * (w + 1)) ds
 | [], _ => Ts.nil
 | d :: r, h => (Ts.cons (h d (by simp)) (Zna r fun x hx => h x (by simp [hx]))).le (Nat.le_refl _) (by rw [List.length_cons, Nat.succ_mul]; omega)
theorem Ts.split {k : Nat} : ∀ {xs ys : List D} {w : Nat}, Ts [] H k w (xs ++ ys) -> ∃ a b, Ts [] H k a xs ∧ Ts [] H k b ys ∧ a + b ≤ w
 | [], ys, w, h => ⟨0, w, Ts.nil, h, by omega⟩
 | x :: xs, ys, w, h => by
  obtain ⟨u, v, t1, t2, l⟩ := Ts.two (ds := xs ++ ys) h
  obtain ⟨a, b, s1, s2, l2⟩ := Ts.split t2
  exact ⟨u + a + 1, b, Ts.cons t1 s1, s2, by omega⟩
theorem Yas {k w t : Nat} {ds : List D} {d : D} (h : Ts [] H k w ds) (hd : T [] H k 1000 d) : Ts [] H k (w + 1001) (ds.take t ++ [d] ++ ds.drop t) := by
 rw [← List.take_append_drop t ds] at h
 obtain ⟨a, b, s1, s2, l⟩ := h.split
 exact (Ts.app (Ts.app s1 (Ts.cons hd (Ts.nil (w := 0)))) s2).le (Nat.le_refl _) (by omega)
theorem Zlt {p t : Nat} {xs : List D} (g : H[p]? = some (.lst xs)) (q : Q (.ref H.length) (H ++ [.lst (xs.take t)])) : wE (slD (.ref p) none (some (t : Int)) H) Q :=
 ⟨_, _, by rw [← Zuj]; simp only [slD, g], q⟩
section
variable {ks : List D} {rss : List (List Int)} {ds : List D} {dg : List Int} {p3 p4 p7 t : Nat}
theorem gd_at (hg : ∀ d ∈ ds, Gd d) (ht : t ≤ ds.length) : ∃ d, atI (ds ++ [D.tup [.str "less", .int 0]]) (t : Int) = some d ∧ Gd d := by
 have lt : t < (ds ++ [D.tup [.str "less", .int 0]]).length := by simp; omega
 refine ⟨_, Zdw (List.getElem?_eq_getElem lt), ?_⟩
 have hm := List.getElem_mem lt
 rcases List.mem_append.mp hm with z | z
 ·exact hg _ z
 ·simp only [List.mem_singleton] at z
  rw [z]
  exact ⟨tm2 (i := 0) (by decide) (by decide) (by decide) (by omega), _, _, _, rfl, by simp⟩
theorem Zpl {N : Int} {n : Nat} {z0 z1 z5 z6 z9 z10 z11 : Option D} (hN : N = n) (c : CR ks rss) (hr : rss.length ≤ 120) (g3 : H[p3]? = some (.lst ds)) (g4 : H[p4]? = some (.lst ((mad ks rss [] ds).map Za7))) (g7 : H[p7]? = some (.lst (dg.map .int))) (hd : Zr3 dg) (hl7 : n + 5 ≤ dg.length) (hg : ∀ d ∈ ds, Gd d) (hl : ds.length ≤ 700) (ht : t ≤ ds.length) (ok : mok ks rss [] ds = true)
  (q : ∀ d H', Fm [] H H' → Wr H' d → Q d H') : wE (Zal 4 Zas (Zaa (Zac 2) (Zaa (eSl (Zac 4) Zbq (Zbh (Zac 8))) (Zaa (eOp ixD (eOp Zbg (Zac 3) (Zch (Zaa (Zcz (Zaa (eC (.str "less")) (Zaa (eC (.int 0)) Zae))) Zae))) (Zac 8)) (Zaa (eSl (Zac 7) (Zbh (eC (.int N))) Zbq) Zae))))
   [z0, z1, some (Zaj ks rss), some (.ref p3), some (.ref p4), z5, z6, some (.ref p7), some (.int (t : Int)), z9, z10, z11] H) Q := by
 subst hN
 have lm := Zfs ks rss ds [] ok
 simp at lm
 fail "g"
 refine Zlt g4 ?_
 rw [← List.map_take]
 fail "g"
 refine Zef (appL (appL g3)) last (by simp; omega) ?_
 obtain ⟨d, hat, gd⟩ := gd_at hg ht
 fail "g"
 refine w_ixR last hat ?_
 obtain ⟨a, b, r, rfl, hr10⟩ := gd.sh
 fail "g"
 refine Zlx (k := n) (appL (appL (appL g7))) ?_
 rw [← List.map_drop]
 fail "g"
 refine Zty c hr (by rw [List.length_take]; omega) (appL (appL (appL last))) last (hd.drop n) (by simp; omega) gd.tm hr10 fun d H' x wr => ?_
 exact q d H' (((((Fm.app _).trans (Fm.app _)).trans (Fm.app _)).trans (Fm.app _)).trans x) wr
theorem Ya5 {k : Nat} {script : List Int} {H0 : HD} {z1 z5 z6 z7 z8 z9 z10 z11 : Option D} {Z : FD -> SD -> HD -> Prop} (c : CR ks rss) (hr : rss.length ≤ 120) (g3 : H0[p3]? = some (.lst ds)) (g4 : H0[p4]? = some (.lst ((mad ks rss [] ds).map Za7))) (hg : ∀ d ∈ ds, Gd d) (hl : ds.length ≤ 700) (ok : mok ks rss [] ds = true) (hk : k ≤ 3) (i1 : Fm [] H0 H) :
  wG (gNm 5 (.int k) [some (.fl (script.map .int)), z1, some (Zaj ks rss), some (.ref p3), some (.ref p4), z5, z6, z7, z8, z9, z10, z11] H) fun σ1 H1 => wS ((Zaf (Zav 7 (eSl (Zal 2 Za4 (Zaa (Zal 2 Zcl (Zaa (Zac 0) (Zaa (eOp Zbg (eC (.int 3)) (Zac 5)) Zae))) (Zaa (eC (.int 60)) Zae))) (Zbh (eC (.int 24))) Zbq))
 (Zaf (Zav 8 (eOp Zbx (eOp ixD (Zac 7) (eC (.int 0))) (eOp Zbg (eCB Zbv (Zaa (Zac 3) Zae)) (eC (.int 1)))))
 (Zaf (Zav 9 (Zal 4 Zas (Zaa (Zac 2) (Zaa (eSl (Zac 4) Zbq (Zbh (Zac 8))) (Zaa (eOp ixD (eOp Zbg (Zac 3) (Zch (Zaa (Zcz (Zaa (eC (.str "less")) (Zaa (eC (.int 0)) Zae))) Zae))) (Zac 8)) (Zaa (eSl (Zac 7) (Zbh (eC (.int 1))) Zbq) Zae))))))
 (Zaf (Zav 10 (eOp Zbg (eOp Zbg (eSl (Zac 3) Zbq (Zbh (Zac 8))) (Zch (Zaa (Zac 9) Zae))) (eSl (Zac 3) (Zbh (Zac 8)) Zbq)))
 (Zaf (sIf (tOf (eOp eqD (eOp Zbx (eOp ixD (Zac 7) (eC (.int 17))) (eC (.int 2))) (eC (.int 0)))) (Zaf (Zav 11 (eOp Zbg (eOp Zbg (Zac 8) (eC (.int 1))) (eOp Zbx (eOp ixD (Zac 7) (eC (.int 18))) (eOp Zl3 (eCB Zbv (Zaa (Zac 10) Zae)) (Zac 8)))))
 (Zaf (Zav 9 (Zal 4 Zas (Zaa (Zac 2) (Zaa (eSl (Zac 4) Zbq (Zbh (Zac 8))) (Zaa (eOp ixD (eOp Zbg (Zac 3) (Zch (Zaa (Zcz (Zaa (eC (.str "less")) (Zaa (eC (.int 0)) Zae))) Zae))) (Zac 8)) (Zaa (eSl (Zac 7) (Zbh (eC (.int 19))) Zbq) Zae))))))
 (Zaf (Zav 10 (eOp Zbg (eOp Zbg (eSl (Zac 10) Zbq (Zbh (Zac 11))) (Zch (Zaa (Zac 9) Zae))) (eSl (Zac 10) (Zbh (Zac 11)) Zbq)))
 Zak))) Zak)
 (Zaf (sIf (tNo (Zgq (Zal 2 Zbl (Zaa (Zac 2) (Zaa (Zac 10) Zae))))) (Zaf (Zaz (eC (.bl false)))
 Zak) Zak)
 Zak)))))) σ1 H1) (again (fun σ' H' => Fm [] H0 H' ∧ ∃ z5 z6 z7 z8 z9 z10 z11, σ' = [some (.fl (script.map .int)), z1, some (Zaj ks rss), some (.ref p3), some (.ref p4), z5, z6, z7, z8, z9, z10, z11]) Z) := by
 refine w_gnm ?_
 refine w_seq (w_set ?_)
 fail "g"
 refine w_at (by omega) (by omega) fun cell => ?_
 fail "g"
 refine Zfk (many := 60) (by omega) fun dg0 pg H2 l2 d2 g2 n2 x2 => ?_
 fail "g"
 refine Zlx (k := 24) g2 ?_
 rw [← List.map_drop]
 have hd := d2.drop 24
 have ldg : (dg0.drop 24).length = 36 := by simp; omega
 generalize dg0.drop 24 = dg at hd ldg
 have X2 : Fm [] H0 (H2 ++ [.lst (dg.map .int)]) := (i1.trans x2).trans (Fm.app _)
 have g7 : (H2 ++ [DO.lst (dg.map .int)])[H2.length]? = some (.lst (dg.map .int)) := last
 generalize (H2 ++ [DO.lst (dg.map .int)]) = H3 at X2 g7 ⊢
 refine w_kn ?_
 refine w_seq (w_set ?_)
 fail "g"
 refine Zax g7 hd (by omega) (by omega) fun u u0 u1 => ?_
 fail "g"
 refine w_lenR (X2.lst (by simp) g3) ?_
 fail "g"
 refine w_mod (by omega) ?_
 obtain ⟨t, ht, lt⟩ : ∃ t : Nat, u % ((ds.length : Int) + 1) = t ∧ t ≤ ds.length := ⟨(u % ((ds.length : Int) + 1)).toNat, by have := Int.emod_nonneg u (show (ds.length : Int) + 1 ≠ 0 by omega); omega, by have := Int.emod_lt_of_pos u (show 0 < (ds.length : Int) + 1 by omega); omega⟩
 rw [ht]
 refine w_kn ?_
 refine w_seq (w_set ?_)
 refine Zpl (n := 1) rfl c hr (X2.lst (by simp) g3) (X2.lst (by simp) g4) g7 hd (by omega) hg hl lt ok fun d4 H4 x4 wr4 => ?_
 have X4 := X2.trans x4
 have g34 := X4.lst (by simp) g3
 refine w_kn ?_
 refine w_seq (w_set ?_)
 fail "g"
 refine Zlt g34 ?_
 fail "g"
 refine Zef (appL last) last (by simp; omega) ?_
 fail "g"
 refine Zlx (k := t) (by fail "lk") ?_
 fail "g"
 refine Zef (appL last) last (by simp; omega) ?_
 have x45 := ((((Fm.refl (S := []) (H := H4)).trans (Fm.app (S := []) [DO.lst (ds.take t)])).trans (Fm.app (S := []) [DO.lst [d4]])).trans (Fm.app (S := []) [DO.lst (ds.take t ++ [d4])])).trans (Fm.app (S := []) [DO.lst (ds.drop t)]) |>.trans (Fm.app (S := []) [DO.lst (ds.take t ++ [d4] ++ ds.drop t)])
 have X5 := X4.trans x45
 have g10 : (H4 ++ [DO.lst (ds.take t)] ++ [DO.lst [d4]] ++ [DO.lst (ds.take t ++ [d4])] ++ [DO.lst (ds.drop t)] ++ [DO.lst (ds.take t ++ [d4] ++ ds.drop t)])[(H4 ++ [DO.lst (ds.take t)] ++ [DO.lst [d4]] ++ [DO.lst (ds.take t ++ [d4])] ++ [DO.lst (ds.drop t)]).length]? = some (.lst (ds.take t ++ [d4] ++ ds.drop t)) := last
 generalize (H4 ++ [DO.lst (ds.take t)] ++ [DO.lst [d4]] ++ [DO.lst (ds.take t ++ [d4])] ++ [DO.lst (ds.drop t)] ++ [DO.lst (ds.take t ++ [d4] ++ ds.drop t)]) = H5 at X5 x45 g10 ⊢
 generalize (H4 ++ [DO.lst (ds.take t)] ++ [DO.lst [d4]] ++ [DO.lst (ds.take t ++ [d4])] ++ [DO.lst (ds.drop t)]).length = p10 at g10 ⊢
 have ts0 : Ts [] H5 4 (ds.length * 301) ds := Zna ds fun d hd => ((hg d hd).tm H5).le (by omega) (Nat.le_refl _)
 have ts1 := Yas (t := t) ts0 (wr4.fm0 x45)
 have lw : (ds.take t ++ [d4] ++ ds.drop t).length = ds.length + 1 := by simp; omega
 generalize ds.take t ++ [d4] ++ ds.drop t = ws at g10 ts1 lw
 refine w_kn ?_
 refine w_seq (Zlu (fun σ' H' => ∃ ws p10 z9 z11, H'[p10]? = some (.lst ws) ∧ Ts [] H' 4 (ds.length * 301 + 1001 + 1001) ws ∧ ws.length ≤ 702 ∧ Fm [] H0 H' ∧ σ' = [some (.fl (script.map .int)), z1, some (Zaj ks rss), some (.ref p3), some (.ref p4), some (.int k), z6, some (.ref H2.length), some (.int t), z9, some (.ref p10), z11]) ?_ ?_)
 ·have g75 := (x4.trans x45).lst (by simp) g7
  (refine WP.w_if ?_; fail "g")
  refine Zax g75 hd (by omega) (by omega) fun u u0 u1 => ?_
  fail "g"
  refine ⟨fun v => ?_, fun v => ?_⟩
  ·fail "g"
   refine Zax g75 hd (by omega) (by omega) fun u' u0' u1' => ?_
   fail "g"
   refine w_mod (by omega) ?_
   obtain ⟨s, hs⟩ : ∃ s : Nat, (t : Int) + 1 + u' % ((ws.length : Int) - (t : Int)) = s := ⟨((t : Int) + 1 + u' % ((ws.length : Int) - (t : Int))).toNat, by have := Int.emod_nonneg u' (show (ws.length : Int) - (t : Int) ≠ 0 by omega); omega⟩
   refine w_addI ?_
   rw [hs]
   refine w_kn ?_
   refine w_seq (w_set ?_)
   refine Zpl (n := 19) rfl c hr (X5.lst (by simp) g3) (X5.lst (by simp) g4) g75 hd (by omega) hg hl lt ok fun d6 H6 x6 wr6 => ?_
   have X6 := X5.trans x6
   have g106 := x6.lst (by simp) g10
   fail "g"
   refine Zlt g106 ?_
   fail "g"
   refine Zef (appL last) last (by simp; omega) ?_
   fail "g"
   refine Zlx (k := s) (by fail "lk") ?_
   fail "g"
   refine Zef (appL last) last (by simp; omega) ?_
   fail "g"
   have e7 : ∀ H7 : HD, Fm [] H6 H7 -> Ts [] H7 4 (ds.length * 301 + 1001 + 1001) (ws.take s ++ [d6] ++ ws.drop s) := fun H7 x7 => Yas ((ts1.fm x6).fm x7) (wr6.fm0 x7)
   have x67 := ((((Fm.refl (S := []) (H := H6)).trans (Fm.app (S := []) [DO.lst (ws.take s)])).trans (Fm.app (S := []) [DO.lst [d6]])).trans (Fm.app (S := []) [DO.lst (ws.take s ++ [d6])])).trans (Fm.app (S := []) [DO.lst (ws.drop s)]) |>.trans (Fm.app (S := []) [DO.lst (ws.take s ++ [d6] ++ ws.drop s)])
   exact ⟨rfl, _, _, _, _, last, e7 _ x67, by simp; omega, X6.trans x67, rfl⟩
  ·fail "g"
   exact ⟨rfl, ws, p10, _, _, g10, ts1.le (Nat.le_refl _) (by omega), by omega, X5, rfl⟩
 rintro _ H8 ⟨ws, p10, z9, z11, g8, ts8, l8, X8, rfl⟩
 fail "i"
 refine Zvw c g8 ts8 (by omega) (by omega) (by omega) fun H9 x9 => ?_
 fail "g"
 exact ⟨X8.trans x9, _, _, _, _, _, _, _, rfl⟩
end
variable {σ : SD} {H : HD} {Q : D -> HD -> Prop}
theorem Zw1 {fo : EF} {tb : List (Str × Bool)} (h : wE (fo σ H) fun d H1 => ∃ n c b, d = .ref n ∧ H1[n]? = some (.exc c) ∧ tb.lookup c = some b ∧ Q (.bl b) H1) : wE (Zy1 tb fo σ H) Q := by
 obtain ⟨d, H1, e, n, c, b, rfl, g, l, q⟩ := h
 refine ⟨_, _, ?_, q⟩
 unfold Zy1
 rw [e]
 simp only [Zb]
 rw [g]
 simp only
 rw [l]
 rfl
theorem Zs0 {k W p r : Nat} {ds : List D} (ts : Ts [] H k W ds) (hk : k ≤ 29) (g1 : H[p]? = some (.lst ds)) (g2 : H[r]? = some (.lst [])) (q : Q (.bl (!ds.isEmpty)) H) : wE (neD (.ref p) (.ref r) H) Q := by
 obtain ⟨xs, e, s, _⟩ := ts
 have e1 := e H Fm.refl 29 (by omega)
 have lx := Zgu e1
 have t1 : toP H 30 (.ref p) = some (.list xs) := by
  rw [toP]
  simp only [g1, e1, Option.map_some]
 have d1 : DL.dat (.ref p) H = some (.list xs) := by
  have dd : (PyData.list xs).depth ≤ 30 := Nat.le_trans (Nat.succ_le_succ s.dep) (by omega)
  have l : PyData.canLay0 (.list xs) = true := s.lay
  unfold DL.dat
  rw [t1]
  simp [okP, l, dd]
 refine ⟨_, _, Zgd d1 ((Fines.nil (h := 0)).dat (by omega) g2), ?_⟩
 have ee : PyData.eqv (.list xs) (.list []) = ds.isEmpty := by
  cases ds with
  | nil => cases xs with
   | nil => rfl
   | cons a b => simp at lx
  | cons d r => cases xs with
   | nil => simp at lx
   | cons a b => simp [PyData.eqv, PyData.eqvAll]
 rw [ee]
 exact q
noncomputable def Zid : Nat -> Nat -> List D
 | _, 0 => []
 | n, m + 1 => .tup [.str "less", .int ((n : Int) - 1)] :: Zid (n + 1) m
theorem Zlo : ∀ (m n : Nat), (Zid n m).length = m
 | 0, _ => rfl
 | m + 1, n => by rw [Zid, List.length_cons, Zlo m]
theorem Zm2 : ∀ (m n : Nat) (k : Nat), (Zar (k : Int) m).map (fun d => match d with | .int i => D.tup [.str "less", .int ((n : Int) + i - 1)] | d => d) = Zid (n + k) m
 | 0, n, k => by unfold Zar Zid; rfl
 | m + 1, n, k => by
  rw [Zgl, List.map_cons, Zid]
  have := Zm2 m n (k + 1)
  rw [show (((k + 1 : Nat)) : Int) = (k : Int) + 1 by omega] at this
  rw [this, show n + (k + 1) = n + k + 1 by omega]
  simp
theorem Zkx {ks : List D} {rss : List (List Int)} : ∀ (m : Nat) (made : List (List Int)), 1 ≤ made.length -> mok ks rss made (Zid made.length m) = true
 | 0, _, _ => rfl
 | m + 1, made, h => by
  have e : stp ks rss made (.tup [.str "less", .int ((made.length : Int) - 1)]) = some (Zde ks made[made.length - 1]) := by
   rw [show ((made.length : Int) - 1) = ((made.length - 1 : Nat) : Int) by omega]
   exact Zmz (by omega)
  rw [Zid]
  simp only [mok, e]
  have := Zkx (ks := ks) (rss := rss) m (made ++ [Zde ks made[made.length - 1]]) (by simp)
  simpa using this
theorem Znb : ∀ (m n : Nat), 1 ≤ n -> n + m ≤ 1100 -> ∀ d ∈ Zid n m, Gd d
 | 0, _, _, _ => fun d h => by cases h
 | m + 1, n, h1, h2 => by
  rw [Zid, show ((n : Int) - 1) = ((n - 1 : Nat) : Int) by omega]
  exact fa ⟨tm2 (by decide) (by decide) (by decide) (by omega), _, _, _, rfl, by simp⟩ (Znb m (n + 1) (by omega) (by omega))
theorem pure_law : ∀ ns : List Int, ns.length ≤ 63 -> ∃ Hd', Zok [.fl (ns.map .int)] [] = some (.bl true, Hd') := by
 intro ns hns
 suffices h : wE (Zok [.fl (ns.map .int)] []) fun d _ => d = .bl true by
  obtain ⟨d, H, e, rfl⟩ := h
  exact ⟨H, e⟩
 refine Zbc rfl ?_
 show wS (Zrz [some (.fl (ns.map .int)), none, none, none, none, none, none, none, none, none, none, none] []) _
 unfold Zrz
 fail "g"
 refine w_at (by omega) (by omega) fun cell => ?_
 fail "g"
 refine Zfk (many := 48) (by omega) fun dg0 pg H1 l1 d1 g1 n1 x1 => ?_
 fail "g"
 refine Zlx (k := 28) g1 ?_
 rw [← List.map_drop]
 have hd := d1.drop 28
 have ldg : (dg0.drop 28).length = 20 := by simp; omega
 generalize dg0.drop 28 = dg at hd ldg
 have gg : (H1 ++ [DO.lst (dg.map .int)])[H1.length]? = some (.lst (dg.map .int)) := last
 generalize (H1 ++ [DO.lst (dg.map .int)]) = H2 at gg
 generalize H1.length = pS at gg
 fail "g"
 refine Zqz (most := 8) (fun H k Q h0 h1 q => w_at h0 h1 q) ⟨by omega, by omega⟩ fun ks rs0 H3 cl lk lr x3 => ?_
 have gg3 := x3.lst (by simp) gg
 fail "g"
 refine Zax gg3 hd (by omega) (by omega) fun u u0 u1 => ?_
 fail "g"
 refine Zod ⟨cl.hk, cl.h8, fun ls h => (up_R (by omega) (cl.hu ls h)).1, cl.hl⟩ lr u0 fun rss H4 c hr x4 => ?_
 have gg4 := x4.lst (by simp) gg3
 fail "g"
 refine Zax gg4 hd (by omega) (by omega) fun v v0 v1 => ?_
 fail "g"
 obtain ⟨many, hm, lm⟩ : ∃ m : Nat, 2 + v % 13 = m ∧ m ≤ 14 := ⟨(2 + v % 13).toNat, by omega, by omega⟩
 rw [hm]
 refine Zks c (by omega) lm fun p5 ds0 H5 g5 ok0 gd0 ld0 x5 => ?_
 have gg5 := x5.lst (by simp) gg4
 refine w_kn ?_
 refine w_seq (Zlu (fun σ' H' => ∃ ds p3, H'[p3]? = some (.lst ds) ∧ mok ks rss [] ds = true ∧ (∀ d ∈ ds, Gd d) ∧ ds.length ≤ 700 ∧ σ' = [some (.fl (ns.map .int)), some (.ref pS), some (Zaj ks rss), some (.ref p3), none, none, none, none, none, none, none, none]) ?_ ?_)
 ·(refine WP.w_if ?_; fail "g")
  refine Zax gg5 hd (by omega) (by omega) fun w w0' w1' => ?_
  fail "g"
  refine ⟨fun z => ?_, fun z => ?_⟩
  ·fail "g"
   have ts0 : Ts [] (H5 ++ [DO.lst []]) 1 (ds0.length * 301) ds0 := Zna ds0 fun d h => (gd0 d h).tm _
   refine Zs0 ts0 (by omega) (appL g5) last ?_
   fail "g"
   cases em : ds0.isEmpty with
   | true => fail "g"; exact ⟨rfl, ds0, p5, appL g5, ok0, gd0, by omega, rfl⟩
   | false =>
    have ln : 1 ≤ ds0.length := by cases ds0 with | nil => cases em | cons a b => simp
    fail "g"
    refine Zax (appL gg5) hd (by omega) (by omega) fun y y0 y1 => ?_
    fail "g"
    obtain ⟨mm, hmm, lmm⟩ : ∃ m : Nat, y % 684 = m ∧ m ≤ 683 := ⟨(y % 684).toNat, by omega, by omega⟩
    rw [hmm]
    refine ⟨_, rfl, ⟨by omega, by omega⟩, ?_⟩
    rw [Int.toNat_natCast]
    refine Zhj (fun d => match d with | .int i => D.tup [.str "less", .int ((ds0.length : Int) + i - 1)] | d => d) (fun H' => H' = H5 ++ [DO.lst []]) (fun _ _ => Zjz) _ (fun x hx H6 j => ?_) _ rfl fun H6 j => ?_
    ·simp only [Zar, List.mem_map, List.mem_range] at hx
     obtain ⟨k, hk, rfl⟩ := hx
     subst j
     show wE (Zcz _ (some (.int (0 + (k : Int))) :: [some (.ref p5)]) _) _
     fail "g"
     exact ⟨rfl, rfl⟩
    subst j
    have el := Zm2 mm ds0.length 0
    rw [Nat.add_zero] at el
    rw [show ((0 : Nat) : Int) = 0 from rfl] at el
    rw [el]
    have ll := Zlo mm ds0.length
    refine ⟨by omega, ?_⟩
    refine Zef (appL (appL g5)) last (by omega) ?_
    fail "g"
    refine ⟨rfl, _, _, last, ?_, ?_, by simp; omega, rfl⟩
    ·rw [Zjn, ok0, Bool.true_and]
     have lk := Zfs ks rss ds0 [] ok0
     simp at lk
     rw [← lk]
     exact Zkx mm _ (by omega)
    ·intro d hd
     rcases List.mem_append.mp hd with z | z
     ·exact gd0 d z
     ·exact Znb mm ds0.length ln (by omega) d z
  ·fail "g"
   exact ⟨rfl, ds0, p5, g5, ok0, gd0, by omega, rfl⟩
 rintro _ H6 ⟨ds, p3, g3, ok, gd, ld, rfl⟩
 have ts : Ts [] H6 1 (ds.length * 301) ds := Zna ds fun d h => (gd d h).tm _
 fail "i"
 refine Zyh c g3 ts (by omega) (by omega) ok fun H7 x7 => ?_
 fail "g"
 refine Zhk c (x7.lst (by simp) g3) (ts.th.fm x7) (by omega) (by omega) fun p4 H8 g4 l4 x8 => ?_
 have g38 := (x7.trans x8).lst (by simp) g3
 fail "g"
 refine ⟨_, rfl, ⟨by omega, by omega⟩, ?_⟩
 refine Zhg (fun σ' H' => Fm [] H8 H' ∧ ∃ z5 z6 z7 z8 z9 z10 z11, σ' = [some (.fl (ns.map .int)), some (.ref pS), some (Zaj ks rss), some (.ref p3), some (.ref p4), z5, z6, z7, z8, z9, z10, z11]) (fun _ _ _ => Zjz) _ (fun d hd0 σ H9 ⟨i1, z5, z6, z7, z8, z9, z10, z11, i4⟩ => ?_) _ _ ⟨Fm.refl, _, _, _, _, _, _, _, rfl⟩ fun σ H9 ⟨i1, z5, z6, z7, z8, z9, z10, z11, i4⟩ => ?_
 ·subst i4
  simp only [Zar, List.mem_map, List.mem_range] at hd0
  obtain ⟨k, hk, rfl⟩ := hd0
  rw [Int.zero_add]
  exact Ya5 c hr g38 g4 gd ld ok (by simp at hk; omega) i1
 subst i4
 fail "g"
 refine Zom ?_
 fail "g"
 refine Zom ?_
 fail "g"
 refine Zom ?_
 fail "g"
 refine Zom ?_
 fail "g"
 refine Zom ?_
 fail "g"
 refine Zom ?_
 fail "g"
 refine Yax ?_
 fail "g"
 refine ⟨by decide, ?_⟩
 fail "g"
 refine Yax ?_
 fail "g"
 refine ⟨by decide, ?_⟩
 fail "i"
 refine Zhj (fun _ => .bl true) (fun H' => H' = _) (fun _ j => by rw [j]; exact Zus last) _ (fun x hx H2 j => ?_) _ rfl fun H2 j => ?_
 ·subst j
  refine Zw1 ?_
  fail "g"
  simp only [List.mem_cons, List.not_mem_nil, or_false] at hx
  rcases hx with rfl | rfl | rfl | rfl | rfl | rfl | rfl | rfl <;> exact ⟨_, _, true, rfl, by fail "lk", by decide, rfl, rfl⟩
 subst j
 refine ⟨by simp, ?_⟩
 refine Yai (bs := [true, true, true, true, true, true, true, true]) last ?_
 fail "g"
 have th0 : ∀ H : HD, Th 1 H [] := fun H d h => by cases h
 refine Zi9 c last (th0 _) (by omega) (by simp) rfl fun pz Hz gz lz xz => ?_
 fail "g"
 refine Zua (ds := []) (Fines.nil (h := 0)) (by omega) (appL gz) last ?_
 fail "g"
 refine Yal ?_
 fail "g"
 refine ⟨by decide, ?_⟩
 fail "g"
 refine Yal ?_
 fail "g"
 refine ⟨by decide, ?_⟩
 fail "g"
 rfl
end K08
set_option maxHeartbeats 8000000
namespace K08
open PySem PySem.Spec PyProof.Rows L2 DL
noncomputable def top (i : Nat) : Stmt := PySem.Challenge.pw_allsome_k25_rows_made_by_steps.main.body.getD i (.Pass ⟨0, 0, 0, 0⟩)
noncomputable abbrev si_NoStep : Stmt := (Zpt (top 4)).getD 0 (.Pass ⟨0, 0, 0, 0⟩)
theorem Znw : FnScope ["self", "step"] ["self", "step"] (Zad si_NoStep) := ⟨rfl, rfl, rfl, by decide +kernel, rfl, by decide +kernel, by decide +kernel⟩
noncomputable abbrev si_NoText : Stmt := (Zpt (top 5)).getD 0 (.Pass ⟨0, 0, 0, 0⟩)
theorem Zon : FnScope ["self", "line"] ["self", "line"] (Zad si_NoText) := ⟨rfl, rfl, rfl, by decide +kernel, rfl, by decide +kernel, by decide +kernel⟩
noncomputable abbrev s_is_whole : Stmt := top 1
theorem Zlw : FnScope ["thing"] ["thing"] (Zad s_is_whole) := ⟨rfl, rfl, rfl, by decide +kernel, rfl, by decide +kernel, by decide +kernel⟩
noncomputable abbrev s_is_number_of : Stmt := top 13
theorem Zhu : FnScope ["thing", "many"] ["thing", "many"] (Zad s_is_number_of) := ⟨rfl, rfl, rfl, by decide +kernel, rfl, by decide +kernel, by decide +kernel⟩
noncomputable abbrev s_is_name_of_other : Stmt := top 14
theorem Ze5 : FnScope ["kinds", "side", "thing"] ["kinds", "side", "thing"] (Zad s_is_name_of_other) := ⟨rfl, rfl, rfl, by decide +kernel, rfl, by decide +kernel, by decide +kernel⟩
noncomputable abbrev s_lessened : Stmt := top 15
theorem Ze8 : FnScope ["kinds", "side", "row", "stays"] ["kinds", "side", "row"] (Zad s_lessened) := ⟨rfl, rfl, rfl, by decide +kernel, rfl, by decide +kernel, by decide +kernel⟩
noncomputable abbrev s_without : Stmt := top 16
theorem Zn1 : FnScope ["row", "literal"] ["row", "literal"] (Zad s_without) := ⟨rfl, rfl, rfl, by decide +kernel, rfl, by decide +kernel, by decide +kernel⟩
noncomputable abbrev s_both : Stmt := top 17
theorem Zl6 : FnScope ["one", "other", "told", "literal"] ["one", "other"] (Zad s_both) := ⟨rfl, rfl, rfl, by decide +kernel, rfl, by decide +kernel, by decide +kernel⟩
noncomputable abbrev s_joined : Stmt := top 18
theorem Zrc : FnScope ["one", "other", "name"] ["one", "other", "name"] (Zad s_joined) := ⟨rfl, rfl, rfl, by decide +kernel, rfl, by decide +kernel, by decide +kernel⟩
noncomputable abbrev s_made_by_less : Stmt := top 19
theorem Zh8 : FnScope ["kinds", "side", "made", "step"] ["kinds", "side", "made", "step"] (Zad s_made_by_less) := ⟨rfl, rfl, rfl, by decide +kernel, rfl, by decide +kernel, by decide +kernel⟩
noncomputable abbrev s_made_by_joined : Stmt := top 20
theorem Zf8 : FnScope ["kinds", "side", "made", "step"] ["kinds", "side", "made", "step"] (Zad s_made_by_joined) := ⟨rfl, rfl, rfl, by decide +kernel, rfl, by decide +kernel, by decide +kernel⟩
noncomputable abbrev s_claims_row : Stmt := top 25
theorem Zje : FnScope ["claim", "step"] ["claim", "step"] (Zad s_claims_row) := ⟨rfl, rfl, rfl, by decide +kernel, rfl, by decide +kernel, by decide +kernel⟩
noncomputable abbrev s_made_by : Stmt := top 21
theorem Znt : FnScope ["claim", "side", "first", "made", "step"] ["claim", "side", "first", "made", "step"] (Zad s_made_by) := ⟨rfl, rfl, rfl, by decide +kernel, rfl, by decide +kernel, by decide +kernel⟩
noncomputable abbrev s_all_made : Stmt := top 22
theorem Zdv : FnScope ["claim", "side", "first", "steps", "made", "number", "step", "row"] ["claim", "side", "first", "steps"] (Zad s_all_made) := ⟨rfl, rfl, rfl, by decide +kernel, rfl, by decide +kernel, by decide +kernel⟩
noncomputable abbrev s_is_paper : Stmt := top 23
theorem Zht : FnScope ["claim", "side", "first", "thing", "made"] ["claim", "side", "first", "thing"] (Zad s_is_paper) := ⟨rfl, rfl, rfl, by decide +kernel, rfl, by decide +kernel, by decide +kernel⟩
noncomputable abbrev s_rows_of : Stmt := top 26
theorem Zil : FnScope ["claim", "steps"] ["claim", "steps"] (Zad s_rows_of) := ⟨rfl, rfl, rfl, by decide +kernel, rfl, by decide +kernel, by decide +kernel⟩
noncomputable abbrev s_is_row_paper : Stmt := top 27
theorem Zhh : FnScope ["claim", "thing"] ["claim", "thing"] (Zad s_is_row_paper) := ⟨rfl, rfl, rfl, by decide +kernel, rfl, by decide +kernel, by decide +kernel⟩
noncomputable abbrev s_law_mix : Stmt := top 29
theorem Ziz : FnScope ["cell", "k", "prime", "one"] ["cell", "k"] (Zad s_law_mix) := ⟨rfl, rfl, rfl, by decide +kernel, rfl, by decide +kernel, by decide +kernel⟩
noncomputable abbrev s_law_digits : Stmt := top 30
theorem Zfh : FnScope ["cell", "many", "found", "left_over", "wide", "k"] ["cell", "many"] (Zad s_law_digits) := ⟨rfl, rfl, rfl, by decide +kernel, rfl, by decide +kernel, by decide +kernel⟩
noncomputable abbrev s_law_at : Stmt := top 31
theorem Zrd : FnScope ["script", "k"] ["script", "k"] (Zad s_law_at) := ⟨rfl, rfl, rfl, by decide +kernel, rfl, by decide +kernel, by decide +kernel⟩
noncomputable abbrev s_law_kinds : Stmt := top 32
theorem Zgk : FnScope ["some", "many", "found", "k", "kind"] ["some", "many"] (Zad s_law_kinds) := ⟨rfl, rfl, rfl, by decide +kernel, rfl, by decide +kernel, by decide +kernel⟩
noncomputable abbrev s_law_row : Stmt := top 33
theorem Zin : FnScope ["cell", "many", "wide", "some", "found", "k"] ["cell", "many", "wide"] (Zad s_law_row) := ⟨rfl, rfl, rfl, by decide +kernel, rfl, by decide +kernel, by decide +kernel⟩
noncomputable abbrev s_law_claim : Stmt := top 34
theorem Zgo : FnScope ["script", "most", "some", "many", "kinds", "size", "rows"] ["script", "most"] (Zad s_law_claim) := ⟨rfl, rfl, rfl, by decide +kernel, rfl, by decide +kernel, by decide +kernel⟩
noncomputable abbrev s_law_whole : Stmt := top 35
theorem Zkf : FnScope ["thing", "bound"] ["thing", "bound"] (Zad s_law_whole) := ⟨rfl, rfl, rfl, by decide +kernel, rfl, by decide +kernel, by decide +kernel⟩
noncomputable abbrev s_law_less : Stmt := top 36
theorem Zh3 : FnScope ["kinds", "row", "found", "k", "literal", "behind"] ["kinds", "row"] (Zad s_law_less) := ⟨rfl, rfl, rfl, by decide +kernel, rfl, by decide +kernel, by decide +kernel⟩
noncomputable abbrev s_law_joined : Stmt := top 37
theorem Zdx : FnScope ["row", "other", "name", "found", "one"] ["row", "other", "name"] (Zad s_law_joined) := ⟨rfl, rfl, rfl, by decide +kernel, rfl, by decide +kernel, by decide +kernel⟩
noncomputable abbrev s_law_step : Stmt := top 38
theorem Zhy : FnScope ["claim", "made", "step", "names"] ["claim", "made", "step"] (Zad s_law_step) := ⟨rfl, rfl, rfl, by decide +kernel, rfl, by decide +kernel, by decide +kernel⟩
noncomputable abbrev s_law_made : Stmt := top 39
theorem Zh7 : FnScope ["claim", "steps", "made", "step", "found"] ["claim", "steps"] (Zad s_law_made) := ⟨rfl, rfl, rfl, by decide +kernel, rfl, by decide +kernel, by decide +kernel⟩
noncomputable abbrev s_law_drawn_step : Stmt := top 40
theorem Zdp : FnScope ["claim", "made", "some", "names", "turn", "i", "j", "name"] ["claim", "made", "some"] (Zad s_law_drawn_step) := ⟨rfl, rfl, rfl, by decide +kernel, rfl, by decide +kernel, by decide +kernel⟩
noncomputable abbrev s_law_drawn_steps : Stmt := top 41
theorem Zcy : FnScope ["claim", "script", "at", "many", "steps", "made", "k", "some", "step"] ["claim", "script", "at", "many"] (Zad s_law_drawn_steps) := ⟨rfl, rfl, rfl, by decide +kernel, rfl, by decide +kernel, by decide +kernel⟩
noncomputable abbrev s_law_many_rows : Stmt := top 42
theorem Zd4 : FnScope ["claim", "one", "turned_rows", "kinds", "rows"] ["claim", "one"] (Zad s_law_many_rows) := ⟨rfl, rfl, rfl, by decide +kernel, rfl, by decide +kernel, by decide +kernel⟩
noncomputable abbrev s_law_spoilt_step : Stmt := top 43
theorem Zc8 : FnScope ["claim", "made", "step", "some", "far", "names", "many", "rows", "wrong", "name"] ["claim", "made", "step", "some"] (Zad s_law_spoilt_step) := ⟨rfl, rfl, rfl, by decide +kernel, rfl, by decide +kernel, by decide +kernel⟩
noncomputable abbrev s_law_refused : Stmt := top 44
theorem Zez : FnScope ["claim", "steps", "told", "e"] ["claim", "steps"] (Zad s_law_refused) := ⟨rfl, rfl, rfl, by decide +kernel, rfl, by decide +kernel, by decide +kernel⟩
noncomputable abbrev s_law_plain : Stmt := top 45
theorem Zgj : FnScope ["claim", "steps", "kinds", "e"] ["claim", "steps"] (Zad s_law_plain) := ⟨rfl, rfl, rfl, by decide +kernel, rfl, by decide +kernel, by decide +kernel⟩
noncomputable abbrev s_law_is_due : Stmt := top 46
theorem Zfl : FnScope ["found", "due", "row"] ["found", "due"] (Zad s_law_is_due) := ⟨rfl, rfl, rfl, by decide +kernel, rfl, by decide +kernel, by decide +kernel⟩
noncomputable abbrev s_law_wrong_right : Stmt := top 47
theorem Zc3 : FnScope ["claim", "wrong", "made", "stays", "said", "due", "handed", "found"] ["claim", "wrong"] (Zad s_law_wrong_right) := ⟨rfl, rfl, rfl, by decide +kernel, rfl, by decide +kernel, by decide +kernel⟩
noncomputable abbrev s_law_good_right : Stmt := top 48
theorem Zdg : FnScope ["claim", "steps", "due", "handed", "turn", "found"] ["claim", "steps"] (Zad s_law_good_right) := ⟨rfl, rfl, rfl, by decide +kernel, rfl, by decide +kernel, by decide +kernel⟩
noncomputable abbrev s_law : Stmt := top 49
theorem Zvg : FnScope ["script", "some", "claim", "steps", "due", "k", "made", "more", "at", "bad", "wrong", "later"] ["script"] (Zad s_law) := ⟨rfl, rfl, rfl, by decide +kernel, rfl, by decide +kernel, by decide +kernel⟩
structure Top (K : PySem.W.Frag) (mg : Str -> Option Value) : Prop where
 t_is_whole : Tf K mg "is_whole" K08.s_is_whole
 t_is_number_of : Tf K mg "is_number_of" K08.s_is_number_of
 t_is_name_of_other : Tf K mg "is_name_of_other" K08.s_is_name_of_other
 t_lessened : Tf K mg "lessened" K08.s_lessened
 t_without : Tf K mg "without" K08.s_without
 t_both : Tf K mg "both" K08.s_both
 t_joined : Tf K mg "joined" K08.s_joined
 t_made_by_less : Tf K mg "made_by_less" K08.s_made_by_less
 t_made_by_joined : Tf K mg "made_by_joined" K08.s_made_by_joined
 t_claims_row : Tf K mg "claims_row" K08.s_claims_row
 t_made_by : Tf K mg "made_by" K08.s_made_by
 t_all_made : Tf K mg "all_made" K08.s_all_made
 t_is_paper : Tf K mg "is_paper" K08.s_is_paper
 t_rows_of : Tf K mg "rows_of" K08.s_rows_of
 t_is_row_paper : Tf K mg "is_row_paper" K08.s_is_row_paper
 t_law_mix : Tf K mg "_law_mix" K08.s_law_mix
 t_law_digits : Tf K mg "_law_digits" K08.s_law_digits
 t_law_at : Tf K mg "_law_at" K08.s_law_at
 t_law_kinds : Tf K mg "_law_kinds" K08.s_law_kinds
 t_law_row : Tf K mg "_law_row" K08.s_law_row
 t_law_claim : Tf K mg "_law_claim" K08.s_law_claim
 t_law_whole : Tf K mg "_law_whole" K08.s_law_whole
 t_law_less : Tf K mg "_law_less" K08.s_law_less
 t_law_joined : Tf K mg "_law_joined" K08.s_law_joined
 t_law_step : Tf K mg "_law_step" K08.s_law_step
 t_law_made : Tf K mg "_law_made" K08.s_law_made
 t_law_drawn_step : Tf K mg "_law_drawn_step" K08.s_law_drawn_step
 t_law_drawn_steps : Tf K mg "_law_drawn_steps" K08.s_law_drawn_steps
 t_law_many_rows : Tf K mg "_law_many_rows" K08.s_law_many_rows
 t_law_spoilt_step : Tf K mg "_law_spoilt_step" K08.s_law_spoilt_step
 t_law_refused : Tf K mg "_law_refused" K08.s_law_refused
 t_law_plain : Tf K mg "_law_plain" K08.s_law_plain
 t_law_is_due : Tf K mg "_law_is_due" K08.s_law_is_due
 t_law_wrong_right : Tf K mg "_law_wrong_right" K08.s_law_wrong_right
 t_law_good_right : Tf K mg "_law_good_right" K08.s_law_good_right
 t_law : Tf K mg "law" K08.s_law
 n_ValueError : mg "ValueError" = none
 n_abs : mg "abs" = none
 n_bool : mg "bool" = none
 n_enumerate : mg "enumerate" = none
 n_int : mg "int" = none
 n_isinstance : mg "isinstance" = none
 n_len : mg "len" = none
 n_list : mg "list" = none
 n_max : mg "max" = none
 n_range : mg "range" = none
 n_repr : mg "repr" = none
 n_sorted : mg "sorted" = none
 n_str : mg "str" = none
 n_tuple : mg "tuple" = none
 y_NoStep : ∃ C Cl fI, YCl K mg "NoStep" "step" "NoStep.__init__" si_NoStep C Cl fI
 y_NoText : ∃ C Cl fI, YCl K mg "NoText" "line" "NoText.__init__" si_NoText C Cl fI
 h_NoStep_NoStep : ∃ C cV, mg "NoStep" = some (.ref C) ∧ mg "NoStep" = some cV ∧ PySem.W.exmOne K (.ref C) cV = some true
 h_NoStep_ClaimError : ∃ C cV, mg "NoStep" = some (.ref C) ∧ mg "ClaimError" = some cV ∧ PySem.W.exmOne K (.ref C) cV = some true
 i_NoStep_0 : ∃ c0 c1 c2, Zwl K mg "NoStep" [c0, c1, c2] ∧ mg "NoText" = some (.ref c0) ∧ mg "NotWon" = some (.ref c1) ∧ mg "TooMany" = some (.ref c2)
 i_NoStep_1 : ∃ c0 c1 c2 c3, Zwl K mg "NoStep" [c0, c1, c2, c3] ∧ mg "NoBack" = some (.ref c0) ∧ mg "NoLine" = some (.ref c1) ∧ mg "NoPick" = some (.ref c2) ∧ mg "NoRow" = some (.ref c3)
 v_claims_row : Fv K mg "claims_row"
 e_NoStep : Yn K mg "NoStep"
 e_NoText : Yn K mg "NoText"
 e_NoLine : Xn K mg "NoLine"
 e_NoRow : Xn K mg "NoRow"
 e_NoBack : Xn K mg "NoBack"
 e_NoPick : Xn K mg "NoPick"
 e_TooMany : Xn K mg "TooMany"
 e_NotWon : Xn K mg "NotWon"
 o_NoStep : IsiO K mg "NoStep"
 x_l : Zoi K ["NotWon", "TooMany", "NoPick", "NoBack", "NoRow", "NoLine", "NoText", "NoStep"]
 xi_ClaimError : ∃ c, mg "ClaimError" = some (.ref c) ∧ Is1 K (.ref c) [("NotWon", true), ("TooMany", true), ("NoPick", true), ("NoBack", true), ("NoRow", true), ("NoLine", true), ("NoText", true), ("NoStep", true)]
section
variable {P : Program} {w : World} {K : PySem.W.Frag} {mg : Str -> Option Value} {base : Heap}
theorem okI_NoStep (T : Top K mg) : YRs P w K mg base "NoStep" "step" 1 := by
 obtain ⟨C, Cl, fI, Y⟩ := T.y_NoStep
 obtain ⟨fd, F⟩ := Y.fn
 exact ⟨C, Cl, fI, fd, ["self", "step"], Y.bound, Y.kp, Y.ini, Zuu (k := 0) (ln := "step") Y.ini Y.base F Znw rfl (by decide) (by decide) rfl rfl rfl (fun L cdv => ⟨_, rfl⟩), F.binds (fun _ _ _ _ _ _ us hl => by obtain ⟨_, _, rfl⟩ := us2 hl; rfl), Y.look⟩
theorem Zim (T : Top K mg) : YRs P w K mg base "NoText" "line" 1 := by
 obtain ⟨C, Cl, fI, Y⟩ := T.y_NoText
 obtain ⟨fd, F⟩ := Y.fn
 exact ⟨C, Cl, fI, fd, ["self", "line"], Y.bound, Y.kp, Y.ini, Zuu (k := 0) (ln := "line") Y.ini Y.base F Zon rfl (by decide) (by decide) rfl rfl rfl (fun L cdv => ⟨_, rfl⟩), F.binds (fun _ _ _ _ _ _ us hl => by obtain ⟨_, _, rfl⟩ := us2 hl; rfl), Y.look⟩
local macro_rules | `(tactic| fail $s:str) => do
 if s.getString.take 1 != "~" then Lean.Macro.throwUnsupported
 let i := fun (x : String) => Lean.mkIdent x.toName
 let mut o : Array (Lean.TSyntax `tactic) := #[]
 for w in (s.getString.drop 1).toString.splitOn " " do
  o := o.push (← match w with
   | "a" => `(tactic| rfl)
   | "b" => `(tactic| refine paf_c ?_ ?_ ?_)
   | "c" => `(tactic| exact Zh1)
   | "d" => `(tactic| refine Zfq ?_ ?_)
   | "e" => `(tactic| refine Zfq ?_ Zg2)
   | "f" => `(tactic| first | exact Or.inl rfl | exact Or.inr rfl)
   | "g" => `(tactic| exact $(i "nd"))
   | "h" => `(tactic| refine Zuw ?_ ?_ Zg2)
   | "i" => `(tactic| exact (Zab (pv 0)))
   | "j" => `(tactic| refine Zdr Zqk ?_ $(i "T.n_len") Zyu ?_)
   | "k" => `(tactic| exact (Zab (pv 1)))
   | "l" => `(tactic| refine Zfa ?_)
   | "m" => `(tactic| exact Zag)
   | "n" => `(tactic| exact Zmc)
   | "o" => `(tactic| exact (Zab (pv 2)))
   | "p" => `(tactic| refine Zam Zc9 ?_ Zag)
   | "q" => `(tactic| exact Zbd ixf (Zab (pv 2)) Zag (fun _ _ => rfl))
   | "r" => `(tactic| refine Zph ?_)
   | "s" => `(tactic| exact Zbd ixf (Zab (pv 3)) Zag (fun _ _ => rfl))
   | "t" => `(tactic| intro _ _ _ _ _ _)
   | "u" => `(tactic| refine Zo9 ?_)
   | "v" => `(tactic| refine PWf.pt ?_)
   | "w" => `(tactic| exact (Zab (pv 3)))
   | "x" => `(tactic| exact (Zab (pv 4)))
   | "y" => `(tactic| refine Yar ?_ ?_)
   | "z" => `(tactic| exact Zbd ixf (Zab (pv 0)) Zag (fun _ _ => rfl))
   | "A" => `(tactic| refine Zk7 ?_ (fun _ => rfl))
   | "B" => `(tactic| refine Zxn ?_)
   | "C" => `(tactic| exact Zo9 Zh1)
   | "D" => `(tactic| refine Zwy ?_)
   | "E" => `(tactic| exact Zfa Zdd)
   | "F" => `(tactic| refine Zan (Ze0 $(i "hr.units")) ?_ Zag (Zaq _))
   | "G" => `(tactic| refine Zxx PassesOwn.never ?_ ?_ ?_ ?_)
   | "H" => `(tactic| refine Zbm (i := 4) ?_ ?_ ?_ ?_)
   | "I" => `(tactic| with_unfolding_all rfl)
   | "J" => `(tactic| refine Zt1 ?_)
   | "K" => `(tactic| refine Zbd ixf ?_ ?_ (fun _ _ => rfl))
   | "L" => `(tactic| exact Zfa Zm7)
   | "M" => `(tactic| refine Zdr Zp3 ?_ $(i "T.n_isinstance") Zjo ?_)
   | "N" => `(tactic| refine Zbm (i := 3) ?_ ?_ ?_ ?_)
   | "O" => `(tactic| refine Zbm (i := 2) ?_ ?_ ?_ ?_)
   | "P" => `(tactic| refine Zam Zaw ?_ ?_)
   | "Q" => `(tactic| refine Zn0 ?_ $(i "T.n_range") ?_)
   | "R" => `(tactic| refine Zam Zc9 ?_ ?_)
   | "S" => `(tactic| refine Zvz ?_ ?_)
   | "T" => `(tactic| exact $(i "hE"))
   | "U" => `(tactic| exact Zbd ixf (Zab (pv 1)) Zag (fun _ _ => rfl))
   | "V" => `(tactic| refine Zgf Zme ?_ $(i "T.n_tuple") Zg0 ?_)
   | "W" => `(tactic| exact $(i "hr.mono") (by decide))
   | "X" => `(tactic| exact (Zab (pv 6)))
   | "Y" => `(tactic| exact Zcm Zag)
   | "Z" => `(tactic| exact (Zab (pv 7)))
   | "0" => `(tactic| exact Zph Zh1)
   | "1" => `(tactic| refine Zv4 ?_ ?_)
   | "2" => `(tactic| exact ($(i "okI_NoStep") $(i "T")))
   | "3" => `(tactic| refine Zvv ?_)
   | "4" => `(tactic| refine Zbm (i := 7) ?_ ?_ ?_ ?_)
   | "5" => `(tactic| refine Zto ?_)
   | "6" => `(tactic| exact Zsc)
   | "7" => `(tactic| refine Zmr PySem.F.slot_list_append PySem.F.type_list_append Zet (Zab (pv 2)) ?_)
   | "8" => `(tactic| refine Zgf Zn2 ?_ $(i "T.n_list") Zmg ?_)
   | "9" => `(tactic| refine Zbm (i := 5) ?_ ?_ ?_ ?_)
   | "aa" => `(tactic| refine Zam Zaw ?_ Zag)
   | "ab" => `(tactic| exact Zhi Ze9 Zag)
   | "ac" => `(tactic| exact (Zab (pv 5)))
   | "ad" => `(tactic| refine Zwa ?_ ?_)
   | "ae" => `(tactic| exact Zm7)
   | "af" => `(tactic| refine Zap ($(i "ok_law_digits") $(i "T")) ($(i "hr.mono") (by decide)) ?_ ?_)
   | "ag" => `(tactic| refine Zap ($(i "ok_law_whole") $(i "T")) ($(i "hr.mono") (by decide)) ?_ ?_)
   | "ah" => `(tactic| refine Zap ($(i "ok_rows_of") $(i "T")) ($(i "hr.mono") (by decide)) ?_ ?_)
   | "ai" => `(tactic| refine Zap ($(i "ok_law_at") $(i "T")) ($(i "hr.mono") (by decide)) ?_ ?_)
   | "aj" => `(tactic| refine Zdr (Znx $(i "hr")) ?_ $(i "T.n_repr") Zvs ?_)
   | "ak" => `(tactic| refine Zan (Zcs $(i "hr.units")) ?_ Zmc (Zaq _))
   | "al" => `(tactic| exact Zam Zaw (Zab (pv 1)) Zag)
   | "am" => `(tactic| refine Zbm (i := 8) ?_ ?_ ?_ ?_)
   | "an" => `(tactic| refine Zc7 (i := 3) ?_ ?_ ?_)
   | "ao" => `(tactic| refine Zc7 (i := 5) ?_ ?_ ?_)
   | "ap" => `(tactic| refine Zc7 (i := 4) ?_ ?_ ?_)
   | "aq" => `(tactic| refine Zam Zaw Zag ?_)
   | "ar" => `(tactic| exact $(i "T.n_isinstance"))
   | "as" => `(tactic| refine Ztj ?_)
   | "at" => `(tactic| refine Zmr PySem.F.slot_list_append PySem.F.type_list_append Zet (Zab (pv 4)) ?_)
   | "au" => `(tactic| refine Zap ($(i "ok_is_number_of") $(i "T")) ($(i "hr.mono") (by decide)) ?_ ?_)
   | "av" => `(tactic| refine Zbd ixf (Zab (pv 0)) ?_ (fun _ _ => rfl))
   | "aw" => `(tactic| refine Zbd ixf (Zab (pv 2)) ?_ (fun _ _ => rfl))
   | "ax" => `(tactic| refine Zan (Zcs $(i "hr.units")) ?_ Zag (Zaq _))
   | "ay" => `(tactic| refine Zan (Ze0 $(i "hr.units")) ?_ Zmc (Zaq _))
   | "az" => `(tactic| refine Zbd ixf (Zab (pv 1)) ?_ (fun _ _ => rfl))
   | "aA" => `(tactic| refine Zdu (Ze0 $(i "hr.units")) ?_ ?_ (Zaq _))
   | "aB" => `(tactic| refine Zdr Zqy ?_ $(i "T.n_abs") Zrn ?_)
   | "aC" => `(tactic| refine Zam Zaw (Zab (pv 3)) ?_)
   | "aD" => `(tactic| refine Zbm (i := 6) ?_ ?_ ?_ ?_)
   | "aE" => `(tactic| refine Zfi ?_ $(i "T.n_bool") Zxs)
   | "aF" => `(tactic| refine Zam Zfd ?_ Zag)
   | "aG" => `(tactic| exact Zcm (Zab (pv 8)))
   | "aH" => `(tactic| exact Zfa (Zab (pv 2)))
   | "aI" => `(tactic| refine Zlj ?_ Zsn)
   | "aJ" => `(tactic| refine Zlj ?_ ?_)
   | "aK" => `(tactic| refine Zwk ?_ ?_)
   | "aL" => `(tactic| refine Zan (Zcs $(i "hr.units")) ?_ (Zab (pv 3)) (Zaq _))
   | "aM" => `(tactic| exact Zbd ixf (Zab (pv 7)) Zag (fun _ _ => rfl))
   | "aN" => `(tactic| refine Zap ($(i "ok_law_made") $(i "T")) ($(i "hr.mono") (by decide)) ?_ ?_)
   | "aO" => `(tactic| refine Zap ($(i "ok_made_by") $(i "T")) ($(i "hr.mono") (by decide)) ?_ ?_)
   | "aP" => `(tactic| exact Zan Zu2 (Zab (pv 7)) Zdd (Zaq _))
   | "aQ" => `(tactic| exact Zam Ze4 Zag (Zab (pv 1)))
   | "aR" => `(tactic| exact Zam Zaw Zag (Zab (pv 5)))
   | "aS" => `(tactic| exact Zam Zaw (Zab (pv 5)) Zag)
   | "aT" => `(tactic| refine Zat (Zab (pv 2)) ?_ Zbe)
   | "aU" => `(tactic| refine Zan (Zuq $(i "hr.units")) Zm7 ?_ ?_)
   | "aV" => `(tactic| refine Zat (Zab (pv 4)) Zbe ?_)
   | "aW" => `(tactic| refine Zan Zj3 ?_ Zag (Zaq _))
   | "U1" => `(tactic| (intro _ _ _ _ _ _ us hl; obtain ⟨_, e⟩ := us1 hl; subst e; rfl))
   | "U2" => `(tactic| (intro _ _ _ _ _ _ us hl; obtain ⟨_, _, e⟩ := us2 hl; subst e; rfl))
   | "U3" => `(tactic| (intro _ _ _ _ _ _ us hl; obtain ⟨_, _, _, e⟩ := us3 hl; subst e; rfl))
   | "U4" => `(tactic| (intro _ _ _ _ _ _ us hl; obtain ⟨_, _, _, _, e⟩ := us4 hl; subst e; rfl))
   | "U5" => `(tactic| (intro _ _ _ _ _ _ us hl; obtain ⟨_, _, _, _, _, e⟩ := us5 hl; subst e; rfl))
   | _ => Lean.Macro.throwUnsupported)
 `(tactic| ($[$o]*))
theorem Zhr (T : Top K mg) : Fn P w K mg base 1 "is_whole" ["thing"] Zes := by
 refine (fun h => h : _ → Fn P w K mg base 1 "is_whole" ["thing"] (Za5 1 1 Zdl)) (Zbf (N := ["thing"]) (k := 0) T.t_is_whole Zlw (by fail "~U1") ?_)
 intro f cdv A outer s H E hr
 unfold Zdl
 fail "~e l S M a b i b"
 refine Zfi ?_ T.n_int Zq5
 fail "~a c a a 3"
 refine Zqx ?_
 fail "~M a b i b aE a c a a"
theorem ok_is_number_of (T : Top K mg) : Fn P w K mg base 2 "is_number_of" ["thing", "many"] Zbb := by
 refine (fun h => h : _ → Fn P w K mg base 2 "is_number_of" ["thing", "many"] (Za5 2 2 Zbr)) (Zbf (N := ["thing", "many"]) (k := 1) T.t_is_number_of Zhu (by fail "~U2") ?_)
 intro f cdv A outer s H E hr
 unfold Zbr
 fail "~e l S"
 refine Zap (Zhr T) (hr.mono (by decide)) ?_ ?_
 fail "~a b i c a 3"
 refine Zg4 Zmu Zk6 Zag (Zab (pv 0)) (Zab (pv 1)) ?_
 fail "~I"
theorem Zfb (T : Top K mg) : Fn P w K mg base 2 "is_name_of_other" ["kinds", "side", "thing"] Zbz := by
 refine (fun h => h : _ → Fn P w K mg base 2 "is_name_of_other" ["kinds", "side", "thing"] (Za5 3 3 Zay)) (Zbf (N := ["kinds", "side", "thing"]) (k := 1) T.t_is_name_of_other Ze5 (by fail "~U3") ?_)
 intro f cdv A outer s H E hr
 unfold Zay
 fail "~e l S"
 refine Zap (Zhr T) (hr.mono (by decide)) ?_ ?_
 fail "~a b o c a S"
 refine Zg4 Zmu Zmu Zag (Zab (pv 2)) ?_ ?_
 fail "~j a b i c a I 3"
 refine Zdu (Zcs hr.units) ?_ (Zab (pv 1)) (Zaq _)
 fail "~av"
 exact Zam Zfd (Zab (pv 2)) Zag
theorem Zly (T : Top K mg) : Fn P w K mg base 1 "lessened" ["kinds", "side", "row"] Zgi := by
 refine (fun h => h : _ → Fn P w K mg base 1 "lessened" ["kinds", "side", "row"] (Za5 3 4 Zdn)) (Zbf (N := ["kinds", "side", "row", "stays"]) (k := 0) T.t_lessened Ze8 (by fail "~U3") ?_)
 intro f cdv A outer s H E hr
 unfold Zdn
 fail "~d N"
 exact Ze8.nd
 fail "~a f j a b o c a d"
 refine Zo5 PassesOwn.never ?_ ?_
 fail "~v 1"
 exact Zan Zj3 (Zab (pv 3)) Zag (Zaq _)
 fail "~5"
 refine Zan (Ze0 hr.units) ?_ (Zab (pv 1)) (Zaq _)
 fail "~av aF aB a b aw"
 exact Zam Zfd (Zab (pv 3)) Zag
 fail "~c a e"
 refine Zx1 (i := 3) Ya9 ?_ ?_ ?_ Zag
 exact Ze8.nd
 fail "~a f e l"
 refine Zat (Zab (pv 2)) Zbe ?_
 exact Zcm (Zab (pv 3))
theorem Ziy (T : Top K mg) : Fn P w K mg base 1 "without" ["row", "literal"] Zft := by
 refine (fun h => h : _ → Fn P w K mg base 1 "without" ["row", "literal"] (Za5 2 2 Zeh)) (Zbf (N := ["row", "literal"]) (k := 0) T.t_without Zn1 (by fail "~U2") ?_)
 intro f cdv A outer s H E hr
 unfold Zeh
 fail "~e l V a b"
 refine Zg5 (cn := ["literal"]) ?_ (Zd8 (x := "other") (cn := ["literal"]) (ci := [1]) (by decide +kernel)) ?_ ?_ ?_
 fail "~a"
 exact Zb6 (Zab (pv 0))
 fail "~t as"
 exact Zan (Zcs hr.units) (Zab (pv 0)) (Zab (pv 1)) (Zaq _)
 fail "~t i c a"
theorem Zwb (T : Top K mg) : Fn P w K mg base 1 "both" ["one", "other"] Zrs := by
 refine (fun h => h : _ → Fn P w K mg base 1 "both" ["one", "other"] (Za5 2 4 Zld)) (Zbf (N := ["one", "other", "told", "literal"]) (k := 0) T.t_both Zl6 (by fail "~U2") ?_)
 intro f cdv A outer s H E hr
 unfold Zld
 fail "~d O"
 exact Zl6.nd
 fail "~a f 8 a b i c a d G a"
 exact Zb6 (Zab (pv 1))
 fail "~an"
 exact Zl6.nd
 fail "~a f d h"
 refine Zan (Zuq hr.units) ?_ (Zab (pv 0)) ?_
 exact Zhi Ze9 (Zab (pv 3))
 fail "~I e E e h"
 refine Zan (Zir hr.units) (Zab (pv 3)) (Zab (pv 0)) ?_
 fail "~I e J 7 b w c a e l V a b"
 refine Zp7 ?_ T.n_sorted ?_ T.n_abs ?_
 fail "~a a b o c a c a"
theorem Zqa (T : Top K mg) : Fn P w K mg base 2 "joined" ["one", "other", "name"] Zjs := by
 refine (fun h => h : _ → Fn P w K mg base 2 "joined" ["one", "other", "name"] (Za5 3 3 Zfj)) (Zbf (N := ["one", "other", "name"]) (k := 1) T.t_joined Zrc (by fail "~U3") ?_)
 intro f cdv A outer s H E hr
 unfold Zfj
 fail "~d h v y"
 refine Zan (Zir hr.units) (Zab (pv 2)) (Zab (pv 0)) ?_
 fail "~I D"
 refine Zan (Zir hr.units) ?_ (Zab (pv 1)) ?_
 exact Zhi Ze9 (Zab (pv 2))
 fail "~I e E e l"
 refine Zap (Zwb T) (hr.mono (by decide)) ?_ ?_
 fail "~a b"
 refine Zap (Ziy T) (hr.mono (by decide)) ?_ ?_
 fail "~a b i b o c a a b"
 refine Zap (Ziy T) (hr.mono (by decide)) ?_ ?_
 fail "~a b k b"
 exact Zhi Ze9 (Zab (pv 2))
 fail "~c a a c a a"
theorem Zhp (T : Top K mg) : Fn P w K mg base 3 "made_by_less" ["kinds", "side", "made", "step"] Zda := by
 refine (fun h => h : _ → Fn P w K mg base 3 "made_by_less" ["kinds", "side", "made", "step"] (Za5 4 4 Zbo)) (Zbf (N := ["kinds", "side", "made", "step"]) (k := 2) T.t_made_by_less Zh8 (by fail "~U4") ?_)
 intro f cdv A outer s H E hr
 unfold Zbo
 fail "~d h v y ax j a b w c a D B A au a b s b j a b o c a c a a e E e l"
 refine Zap (Zly T) (hr.mono (by decide)) ?_ ?_
 fail "~a b i b k b aw s c a a a"
theorem Zf9 (T : Top K mg) : Fn P w K mg base 3 "made_by_joined" ["kinds", "side", "made", "step"] Zcf := by
 refine (fun h => h : _ → Fn P w K mg base 3 "made_by_joined" ["kinds", "side", "made", "step"] (Za5 4 4 Za9)) (Zbf (N := ["kinds", "side", "made", "step"]) (k := 2) T.t_made_by_joined Zf8 (by fail "~U4") ?_)
 intro f cdv A outer s H E hr
 unfold Za9
 fail "~d h v y ax j a b w c a y B A au a b s b j a b o c a c a a D B A au a b s b j a b o c a c a a e E d h B A"
 refine Zap (Zfb T) (hr.mono (by decide)) ?_ ?_
 fail "~a b i b k b s c a a a e E e l"
 refine Zap (Zqa T) (hr.mono (by decide)) ?_ ?_
 fail "~a b aw s b aw s b s c a a a"
theorem Zjk (T : Top K mg) : Fn P w K mg base 3 "claims_row" ["claim", "step"] Zel := by
 refine (fun h => h : _ → Fn P w K mg base 3 "claims_row" ["claim", "step"] (Za5 2 2 Zca)) (Zbf (N := ["claim", "step"]) (k := 2) T.t_claims_row Zje (by fail "~U2") ?_)
 intro f cdv A outer s H E hr
 unfold Zca
 fail "~d h v y ax j a b k c a y ak U D B A au a b U b j a b z c a c a a e E e l K z U"
theorem ok_made_by (T : Top K mg) : Fn P w K mg base 4 "made_by" ["claim", "side", "first", "made", "step"] Zcq := by
 refine (fun h => h : _ → Fn P w K mg base 4 "made_by" ["claim", "side", "first", "made", "step"] (Za5 5 5 Zed)) (Zbf (N := ["claim", "side", "first", "made", "step"]) (k := 3) T.t_made_by Znt (by fail "~U5") ?_)
 intro f cdv A outer s H E hr
 unfold Zed
 fail "~d h v y B A M a b x b"
 refine Zfi ?_ T.n_tuple Zg0
 fail "~a c a a D F j a b x c a e E d h ay"
 exact Zbd ixf (Zab (pv 4)) Zag (fun _ _ => rfl)
 fail "~e l"
 refine Zap (Zhp T) (hr.mono (by decide)) ?_ ?_
 fail "~a b z b k b w b x c a a a a d h ay"
 exact Zbd ixf (Zab (pv 4)) Zag (fun _ _ => rfl)
 fail "~e l"
 refine Zap (Zf9 T) (hr.mono (by decide)) ?_ ?_
 fail "~a b z b k b w b x c a a a a e l"
 refine Zqp (i := 2) (Zjk T) T.v_claims_row (hr.mono (by decide)) (pv 2) ?_
 fail "~b i b x c a a"
theorem Zh5 (T : Top K mg) : Fn P w K mg base 5 "all_made" ["claim", "side", "first", "steps"] Zdk := by
 refine (fun h => h : _ → Fn P w K mg base 5 "all_made" ["claim", "side", "first", "steps"] (Za5 4 8 Zb5)) (Zbf (N := ["claim", "side", "first", "steps", "made", "number", "step", "row"]) (k := 4) T.t_all_made Zdv (by fail "~U4") ?_)
 intro f cdv A outer s H E hr
 unfold Zb5
 have nd := Zdv.nd
 fail "~d H g a f C d G a"
 refine Zku ?_ T.n_enumerate ?_
 fail "~a b w c a aK a aJ ao g a f aI"
 refine Zc7 (i := 6) ?_ ?_ ?_
 fail "~g a f d 4 g a f aO a b i b k b o b x b X c a a a a a d h aP"
 exact Zfq Zry Zg2
 fail "~e J at b Z c a e"
 exact Zfa (Zab (pv 4))
theorem Zgm (T : Top K mg) : FnY P w K mg base 5 "all_made" ["claim", "side", "first", "steps"] "NoStep" (some "step") Zer := by
 refine (fun h => h : _ → FnY P w K mg base 5 "all_made" ["claim", "side", "first", "steps"] "NoStep" (some "step") (Zsb 4 8 Zcx)) (Zy4 (N := ["claim", "side", "first", "steps", "made", "number", "step", "row"]) (k := 4) T.t_all_made Zdv (by fail "~U4") ?_)
 intro C hE f cdv A outer s H E hr
 unfold Zcx
 have nd := Zdv.nd
 refine Zmy ?_ ?_
 fail "~H g a f C"
 refine Zm9 ?_
 refine Zw3 ?_ ?_ ?_ ?_ ?_ ?_
 exact po_cx
 fail "~a"
 refine Zku ?_ T.n_enumerate ?_
 fail "~a b w c a aK a aJ ao g a f aI"
 refine Zc7 (i := 6) ?_ ?_ ?_
 fail "~g a f d 4 g a f aO a b i b k b o b x b X c a a a a a d h aP"
 exact Zfq Zry Zg2
 fail "~e J at b Z c a"
 refine Zmy ?_ ?_
 fail "~4 g a f aO a b i b k b o b x b X c a a a a a"
 refine Zm9 ?_
 refine Zzx ?_ ?_ py_no
 fail "~aP"
 refine Zm9 ?_
 refine Zpo (k := 1) ?_ ?_ ?_ ?_ ?_
 fail "~2 T a W"
 exact Znf (Zab (pv 5)) Zh1
theorem Zmn (T : Top K mg) : Fn P w K mg base 6 "is_paper" ["claim", "side", "first", "thing"] Zi0 := by
 refine (fun h => h : _ → Fn P w K mg base 6 "is_paper" ["claim", "side", "first", "thing"] (Za5 4 5 Zdt)) (Zbf (N := ["claim", "side", "first", "thing", "made"]) (k := 5) T.t_is_paper Zht (by fail "~U4") ?_)
 intro f cdv A outer s H E hr
 unfold Zdt
 obtain ⟨C, cV, hE, hmc, hex⟩ := T.h_NoStep_NoStep
 fail "~d h B A M a b w b"
 refine Zfi ?_ T.n_list Zmg
 fail "~a c a a e L d"
 refine Zsy (k := 5) (C := C) (cV := cV) (xn := "NoStep") (av := some "step") (ps := ["claim", "side", "first", "steps"]) ?_ ?_ ?_ ?_ ?_ ?_ ?_ ?_
 fail "~e H"
 exact Zht.nd
 fail "~a f"
 refine Zap (Zh5 T) (hr.mono (by decide)) ?_ ?_
 fail "~a b i b k b o b w c a a a a"
 exact (Zgm T)
 fail "~T W b i b k b o b w c a a a a"
 exact hmc
 exact hex
 intro ex
 fail "~e L e l S"
 refine Zdu Zj3 ?_ Zag (Zaq _)
 fail "~j a b x c a 3 aA"
 refine Zbd ixf (Zab (pv 4)) ?_ (fun _ _ => rfl)
 fail "~ab 0"
theorem ok_rows_of (T : Top K mg) : Fn P w K mg base 6 "rows_of" ["claim", "steps"] Zb9 := by
 refine (fun h => h : _ → Fn P w K mg base 6 "rows_of" ["claim", "steps"] (Za5 2 2 Zcw)) (Zbf (N := ["claim", "steps"]) (k := 5) T.t_rows_of Zil (by fail "~U2") ?_)
 intro f cdv A outer s H E hr
 unfold Zcw
 fail "~e l"
 refine Zap (Zh5 T) (hr.mono (by decide)) ?_ ?_
 fail "~a b i b n b"
 exact Zo7 T.v_claims_row
 fail "~b k c a a a a"
theorem Zhc (T : Top K mg) : FnY P w K mg base 6 "rows_of" ["claim", "steps"] "NoStep" (some "step") Zfn := by
 refine (fun h => h : _ → FnY P w K mg base 6 "rows_of" ["claim", "steps"] "NoStep" (some "step") (Zsb 2 2 Zdo)) (Zy4 (N := ["claim", "steps"]) (k := 5) T.t_rows_of Zil (by fail "~U2") ?_)
 intro C hE f cdv A outer s H E hr
 unfold Zdo
 refine Zm9 ?_
 refine Zw4 ?_
 refine Ybc (k := 5) (xn := "NoStep") (ps := ["claim", "side", "first", "steps"]) ?_ ?_ ?_ ?_
 exact (Zgm T)
 fail "~T W b i b n b"
 exact Zo7 T.v_claims_row
 fail "~b k c a a a a"
theorem Zhx (T : Top K mg) : Fn P w K mg base 7 "is_row_paper" ["claim", "thing"] Zdb := by
 refine (fun h => h : _ → Fn P w K mg base 7 "is_row_paper" ["claim", "thing"] (Za5 2 2 Zbp)) (Zbf (N := ["claim", "thing"]) (k := 6) T.t_is_row_paper Zhh (by fail "~U2") ?_)
 intro f cdv A outer s H E hr
 unfold Zbp
 fail "~e l"
 refine Zap (Zmn T) (hr.mono (by decide)) ?_ ?_
 fail "~a b i b n b"
 exact Zo7 T.v_claims_row
 fail "~b k c a a a a"
theorem Zoj (T : Top K mg) : Fn P w K mg base 1 "_law_mix" ["cell", "k"] Zhl := by
 refine (fun h => h : _ → Fn P w K mg base 1 "_law_mix" ["cell", "k"] (Za5 2 4 Zei)) (Zbf (N := ["cell", "k", "prime", "one"]) (k := 0) T.t_law_mix Ziz (by fail "~U2") ?_)
 intro f cdv A outer s H E hr
 unfold Zei
 have nd := Ziz.nd
 fail "~d O g a f K u b m b m b m b m b m b m b m c a a a a a a a"
 exact Zam Zc9 (Zab (pv 1)) Zag
 fail "~d N g a f"
 refine Zam Zc9 ?_ (Zab (pv 2))
 refine Zam Ze4 ?_ ?_
 fail "~P"
 exact Zam Zc9 (Zab (pv 0)) Zag
 refine Zam Ze4 Zag ?_
 fail "~al aa P"
 exact Zam Ze4 (Zab (pv 1)) (Zab (pv 1))
 fail "~aQ d N g a f p"
 exact Zam Zhs (Zab (pv 3)) Zag
 fail "~d N g a f"
 refine Zam Zc9 ?_ (Zab (pv 2))
 fail "~aa P"
 exact Zam Ze4 (Zab (pv 3)) Zag
 fail "~aQ e l"
 refine Zam Zew ?_ Zag
 fail "~p"
 exact Zam Zhs (Zab (pv 3)) Zag
theorem ok_law_digits (T : Top K mg) : Fn P w K mg base 2 "_law_digits" ["cell", "many"] Za4 := by
 refine (fun h => h : _ → Fn P w K mg base 2 "_law_digits" ["cell", "many"] (Za5 2 6 Zcd)) (Zbf (N := ["cell", "many", "found", "left_over", "wide", "k"]) (k := 1) T.t_law_digits Zfh (by fail "~U2") ?_)
 intro f cdv A outer s H E hr
 unfold Zcd
 have nd := Zfh.nd
 fail "~d O g a f C d N g a f aB a b i c a d H g a f"
 refine Zdu Zzu (Zab (pv 3)) ?_ (Zaq _)
 exact Zam Zhs Zag Zag
 fail "~d G a Q a b k c a ao g a f e"
 refine Zuw ?_ ?_ ?_
 fail "~v 1"
 exact Zk7 (Zab (pv 4)) (fun _ => rfl)
 fail "~5"
 exact Zan Zj3 (Zab (pv 3)) Zag (Zaq _)
 fail "~d J 7 b"
 exact Zam Zc9 (Zab (pv 3)) Zag
 fail "~c a e N g a f"
 exact Zam Zew (Zab (pv 3)) Zag
 fail "~e J 7 b"
 refine Zap (Zoj T) (hr.mono (by decide)) ?_ ?_
 fail "~a b i b ac c a a c a e aH"
theorem ok_law_at (T : Top K mg) : Fn P w K mg base 1 "_law_at" ["script", "k"] Zcl := by
 refine (fun h => h : _ → Fn P w K mg base 1 "_law_at" ["script", "k"] (Za5 2 2 Zfr)) (Zbf (N := ["script", "k"]) (k := 0) T.t_law_at Zrd (by fail "~U2") ?_)
 intro f cdv A outer s H E hr
 unfold Zfr
 fail "~d h"
 refine Zan Zk6 (Zab (pv 1)) ?_ (Zaq _)
 fail "~j a b i c a e l"
 exact Zbd ixf (Zab (pv 0)) (Zab (pv 1)) (fun _ _ => rfl)
 fail "~e l P aa aQ j a b i c a"
theorem Zkr (T : Top K mg) : Fn P w K mg base 1 "_law_kinds" ["some", "many"] Ze3 := by
 refine (fun h => h : _ → Fn P w K mg base 1 "_law_kinds" ["some", "many"] (Za5 2 5 Zct)) (Zbf (N := ["some", "many", "found", "k", "kind"]) (k := 0) T.t_law_kinds Zgk (by fail "~U2") ?_)
 intro f cdv A outer s H E hr
 unfold Zct
 have nd := Zgk.nd
 fail "~d O g a f C d G a Q a b k c a an g a f d H g a f K u b n b n c a a p av"
 exact Zam Zaw Zag (Zab (pv 3))
 fail "~d h F p z e H g a f K u b n b n c a a p aC z d h F p z e H g a f K u b n b n c a a"
 refine Zgf Zpj ?_ T.n_int Zq5 ?_
 fail "~a b"
 refine Zdu Zj3 ?_ Zag (Zaq _)
 fail "~p av"
 exact Zam Zaw Zag (Zab (pv 3))
 fail "~c a e J 7 b x c a e l V a b o c a"
theorem Zof (T : Top K mg) : Fn P w K mg base 3 "_law_row" ["cell", "many", "wide"] Zhw := by
 refine (fun h => h : _ → Fn P w K mg base 3 "_law_row" ["cell", "many", "wide"] (Za5 3 6 Zen)) (Zbf (N := ["cell", "many", "wide", "some", "found", "k"]) (k := 2) T.t_law_row Zin (by fail "~U3") ?_)
 intro f cdv A outer s H E hr
 unfold Zen
 have nd := Zin.nd
 fail "~d N g a f af a b i b al c a a d H g a f C d G a Q a b k c a ao g a f e h"
 refine Zan Zk6 ?_ ?_ (Zaq _)
 fail "~R"
 refine Zbd ixf (Zab (pv 3)) ?_ (fun _ _ => rfl)
 fail "~aR al"
 refine Zam Zaw (Zab (pv 2)) ?_
 fail "~p s e J at b K u b aS b aF"
 exact Zam Zfd Zag (Zab (pv 5))
 fail "~c a a p"
 refine Zam Zew ?_ ?_
 refine Zbd ixf (Zab (pv 3)) ?_ (fun _ _ => rfl)
 fail "~aR al c a e l V a b x c a"
theorem Zkd (T : Top K mg) : Fn P w K mg base 4 "_law_claim" ["script", "most"] Ze1 := by
 refine (fun h => h : _ → Fn P w K mg base 4 "_law_claim" ["script", "most"] (Za5 2 7 Zcr)) (Zbf (N := ["script", "most", "some", "many", "kinds", "size", "rows"]) (k := 3) T.t_law_claim Zgo (by fail "~U2") ?_)
 intro f cdv A outer s H E hr
 unfold Zcr
 have nd := Zgo.nd
 fail "~d O g a f af a b ai a b i b m c a a b m c a a d N g a f K u b R q al b"
 refine Zam Zfd (Zab (pv 1)) ?_
 fail "~p q b k c a a a p q d H g a f"
 refine Zap (Zkr T) (hr.mono (by decide)) ?_ ?_
 fail "~a b aT Y b"
 refine Zdr (Zkb (by rfl)) ?_ T.n_max Zuy ?_
 fail "~a b m b w c a a c a a d 9 g a f K u b p q b p q b aq p q c a a a p q d"
 refine Zej (i := 6) (cn := ["script", "kinds"]) ?_ (Zd8 (x := "k") (cn := ["script", "kinds"]) (ci := [0, 4]) (by decide +kernel)) ?_ ?_ ?_ ?_ ?_ ?_
 fail "~a Q a b ac c a t 6 t"
 refine Zap (Zof T) (hr.mono (by decide)) ?_ ?_
 fail "~a b ai a b k b"
 exact Zam Zaw Zag (Zab (pv 0))
 fail "~c a a b j a b o c a b m c a a a g a a d h aW p q e"
 refine Zej (i := 6) (cn := []) ?_ (Zd8 (x := "row") (cn := []) (ci := []) (by decide +kernel)) ?_ ?_ ?_ ?_ ?_ ?_
 fail "~a"
 exact Zb6 (Zab (pv 6))
 fail "~t as"
 refine Zan (Zcs hr.units) (Zab (pv 0)) ?_ (Zaq _)
 fail "~0 t i g a a e l r b x b V a b X c a c a a"
theorem ok_law_whole (T : Top K mg) : Fn P w K mg base 1 "_law_whole" ["thing", "bound"] Za0 := by
 refine (fun h => h : _ → Fn P w K mg base 1 "_law_whole" ["thing", "bound"] (Za5 2 2 Zbu)) (Zbf (N := ["thing", "bound"]) (k := 0) T.t_law_whole Zkf (by fail "~U2") ?_)
 intro f cdv A outer s H E hr
 unfold Zbu
 fail "~e l S M a b i b"
 refine Zfi ?_ T.n_int Zq5
 fail "~a c a a S"
 refine Zqx ?_
 fail "~M a b i b aE a c a a 3"
 refine Zg4 Zmu Zk6 Zag (Zab (pv 0)) (Zab (pv 1)) ?_
 fail "~I"
theorem Zma (T : Top K mg) : Fn P w K mg base 1 "_law_less" ["kinds", "row"] Zf2 := by
 refine (fun h => h : _ → Fn P w K mg base 1 "_law_less" ["kinds", "row"] (Za5 2 6 Zdj)) (Zbf (N := ["kinds", "row", "found", "k", "literal", "behind"]) (k := 0) T.t_law_less Zh3 (by fail "~U2") ?_)
 intro f cdv A outer s H E hr
 unfold Zdj
 have nd := Zh3.nd
 fail "~d O g a f C d G a"
 refine Ztb ?_ T.n_enumerate ?_
 fail "~a b k c a aK a aJ an g a f aI ap g a f d"
 refine Zej (i := 5) (cn := ["kinds"]) ?_ (Zd8 (x := "one") (cn := ["kinds"]) (ci := [0]) (by decide +kernel)) ?_ ?_ ?_ ?_ ?_ ?_
 fail "~a"
 refine Zb6 ?_
 refine Zat (Zab (pv 1)) ?_ Zbe
 exact Zcm (Zab (pv 3))
 fail "~t as ak az aF aB a b i c a t i g a a e h"
 refine Zan (Zcs hr.units) (Zab (pv 5)) ?_ (Zaq _)
 fail "~C e J 7 b x c a e l V a b o c a"
theorem Zfw (T : Top K mg) : Fn P w K mg base 1 "_law_joined" ["row", "other", "name"] Zc4 := by
 refine (fun h => h : _ → Fn P w K mg base 1 "_law_joined" ["row", "other", "name"] (Za5 3 5 Zcc)) (Zbf (N := ["row", "other", "name", "found", "one"]) (k := 0) T.t_law_joined Zdx (by fail "~U3") ?_)
 intro f cdv A outer s H E hr
 unfold Zcc
 fail "~d h v y"
 refine Zan (Zir hr.units) (Zab (pv 2)) (Zab (pv 0)) ?_
 fail "~I D"
 refine Zan (Zir hr.units) ?_ (Zab (pv 1)) ?_
 exact Zhi Ze9 (Zab (pv 2))
 fail "~I e E d"
 refine Zbm (i := 3) ?_ ?_ ?_ Zro
 exact Zdx.nd
 fail "~a f d G a"
 refine Zb6 ?_
 exact Zam Zaw (Zab (pv 0)) (Zab (pv 1))
 fail "~ap"
 exact Zdx.nd
 fail "~a f e h"
 refine Zan (Zcs hr.units) ?_ (Zab (pv 2)) (Zaq _)
 fail "~aB a b x c a d h"
 refine Zan iinf ?_ (Zab (pv 3)) ?_
 exact Zhi Ze9 (Zab (pv 4))
 fail "~I e E e"
 refine Zqe Zm7 ?_
 exact Zv3 (Zab (pv 3)) (Zab (pv 4)) isetf
 fail "~e l V a b"
 refine Znr ?_ ?_ T.n_sorted ?_ T.n_abs ?_
 fail "~a a a b w c a c a"
theorem Zhd (T : Top K mg) : Fn P w K mg base 2 "_law_step" ["claim", "made", "step"] Zeo := by
 refine (fun h => h : _ → Fn P w K mg base 2 "_law_step" ["claim", "made", "step"] (Za5 3 4 Zdm)) (Zbf (N := ["claim", "made", "step", "names"]) (k := 1) T.t_law_step Zhy (by fail "~U3") ?_)
 intro f cdv A outer s H E hr
 unfold Zdm
 fail "~d h v y B A M a b o b"
 refine Zfi ?_ T.n_tuple Zg0
 fail "~a c a a y F j a b o c a D B A M a b q b"
 refine Zfi ?_ T.n_str Zyk
 fail "~a c a a e E d h v 1 ay q 1 F j a b o c a 5 A ag a b q b j a b k c a c a a e l"
 refine Zap (Zma T) (hr.mono (by decide)) ?_ ?_
 fail "~a b z b az q c a a d h v 1 ay q 5 F j a b o c a d"
 refine Zej (i := 3) (cn := ["claim"]) ?_ (Zd8 (x := "k") (cn := ["claim"]) (ci := [0]) (by decide +kernel)) ?_ ?_ ?_ ?_ ?_ ?_
 fail "~a Q a b j a b z c a c a t as ak"
 refine Zbd ixf ?_ (Zab (pv 0)) (fun _ _ => rfl)
 fail "~U t"
 exact Zam Zaw (Zab (pv 0)) Zag
 exact Zhy.nd
 fail "~a a d h aU"
 refine Zg5 (cn := ["made"]) ?_ (Zd8 (x := "number") (cn := ["made"]) (ci := [1]) (by decide +kernel)) ?_ ?_ ?_
 fail "~a"
 refine Zb6 ?_
 refine Zat (Zab (pv 2)) ?_ ?_
 fail "~Y Y t 6 t ag a b i b j a b k c a c a a I e E d h v y B A ag a b q b aa j a b z c a c a a D"
 refine Zan (Zir hr.units) ?_ (Zab (pv 3)) ?_
 fail "~q I e E e l"
 refine Zap (Zfw T) (hr.mono (by decide)) ?_ ?_
 fail "~a b az q b az q b q c a a a d h v y ak q D ax j a b o c a e E d h B A ag a b q b j a b z c a c a a e E e l K z q"
theorem ok_law_made (T : Top K mg) : Fn P w K mg base 3 "_law_made" ["claim", "steps"] Zdi := by
 refine (fun h => h : _ → Fn P w K mg base 3 "_law_made" ["claim", "steps"] (Za5 2 5 Zdq)) (Zbf (N := ["claim", "steps", "made", "step", "found"]) (k := 2) T.t_law_made Zh7 (by fail "~U2") ?_)
 intro f cdv A outer s H E hr
 unfold Zdq
 have nd := Zh7.nd
 fail "~d O g a f C d G a"
 exact Zb6 (Zab (pv 1))
 fail "~an g a f d H g a f"
 refine Zap (Zhd T) (hr.mono (by decide)) ?_ ?_
 fail "~a b i b o b w c a a a d h"
 exact Zan Zu2 (Zab (pv 4)) Zdd (Zaq _)
 fail "~e aH e J 7 b x c a e aH"
theorem Zgg (T : Top K mg) : Fn P w K mg base 2 "_law_drawn_step" ["claim", "made", "some"] Zci := by
 refine (fun h => h : _ → Fn P w K mg base 2 "_law_drawn_step" ["claim", "made", "some"] (Za5 3 8 Za8)) (Zbf (N := ["claim", "made", "some", "names", "turn", "i", "j", "name"]) (k := 1) T.t_law_drawn_step Zdp (by fail "~U3") ?_)
 intro f cdv A outer s H E hr
 unfold Za8
 have nd := Zdp.nd
 fail "~d h v 1 F p q 5"
 refine Zan (Zcs hr.units) (Zab (pv 1)) ?_ (Zaq _)
 fail "~C e l r b n b R q j a b k c a c a a d h v 1"
 refine Zan Zk6 ?_ Zag (Zaq _)
 fail "~p q 5"
 refine Zan (Zcs hr.units) (Zab (pv 1)) ?_ (Zaq _)
 fail "~C d"
 refine Zej (i := 3) (cn := ["claim"]) ?_ (Zd8 (x := "k") (cn := ["claim"]) (ci := [0]) (by decide +kernel)) ?_ ?_ ?_ ?_ ?_ ?_
 fail "~a Q a b j a b z c a c a t as ak"
 refine Zbd ixf ?_ (Zab (pv 0)) (fun _ _ => rfl)
 fail "~U t"
 exact Zam Zaw (Zab (pv 0)) Zag
 fail "~g a a e G a Q a b j a b k c a c a ap g a f d 9 g a f R"
 refine Zam Zaw ?_ (Zab (pv 4))
 fail "~q j a b k c a d aD g a f R P q"
 exact Zam Ze4 Zag (Zab (pv 4))
 fail "~j a b k c a e G a"
 exact Zb6 (Zab (pv 3))
 refine Zc7 (i := 7) ?_ ?_ ?_
 fail "~g a f e h"
 refine Zan Zpx ?_ Zdd (Zaq _)
 refine Zap (Zfw T) (hr.mono (by decide)) ?_ ?_
 fail "~a b"
 exact Zbd ixf (Zab (pv 1)) (Zab (pv 5)) (fun _ _ => rfl)
 fail "~b"
 exact Zbd ixf (Zab (pv 1)) (Zab (pv 6)) (fun _ _ => rfl)
 fail "~b Z c a a a e l r b n b ac b X b Z c a a a a d h"
 refine Zan (Ze0 hr.units) ?_ ?_ (Zaq _)
 fail "~z 0 e E e l r b n b R q j a b z c a c a a"
theorem Zfv (T : Top K mg) : Fn P w K mg base 3 "_law_drawn_steps" ["claim", "script", "at", "many"] Zb7 := by
 refine (fun h => h : _ → Fn P w K mg base 3 "_law_drawn_steps" ["claim", "script", "at", "many"] (Za5 4 9 Za1)) (Zbf (N := ["claim", "script", "at", "many", "steps", "made", "k", "some", "step"]) (k := 2) T.t_law_drawn_steps Zcy (by fail "~U4") ?_)
 intro f cdv A outer s H E hr
 unfold Za1
 have nd := Zcy.nd
 fail "~d H g a f C d 9 g a f C d G a Q a b w c a"
 refine Zc7 (i := 6) ?_ ?_ ?_
 fail "~g a f d 4 g a f"
 refine Zat ?_ ?_ Zbe
 fail "~af a b ai a b k b"
 exact Zam Zaw (Zab (pv 2)) (Zab (pv 6))
 fail "~c a a b m c a a Y d am g a f"
 refine Zap (Zgg T) (hr.mono (by decide)) ?_ ?_
 fail "~a b i b ac b Z c a a a e h"
 exact Zan Zpx (Zab (pv 8)) Zdd (Zaq _)
 fail "~d J at b"
 exact (Zab (pv 8))
 fail "~c a e J"
 refine Zmr PySem.F.slot_list_append PySem.F.type_list_append Zet (Zab (pv 5)) ?_
 fail "~b"
 refine Zap (Zhd T) (hr.mono (by decide)) ?_ ?_
 fail "~a b i b ac b"
 exact (Zab (pv 8))
 fail "~c a a a c a e"
 exact Zfa (Zab (pv 4))
theorem Zgt (T : Top K mg) : Fn P w K mg base 1 "_law_many_rows" ["claim", "one"] Zcu := by
 refine (fun h => h : _ → Fn P w K mg base 1 "_law_many_rows" ["claim", "one"] (Za5 2 5 Zbi)) (Zbf (N := ["claim", "one", "turned_rows", "kinds", "rows"]) (k := 0) T.t_law_many_rows Zd4 (by fail "~U2") ?_)
 intro f cdv A outer s H E hr
 unfold Zbi
 have nd := Zd4.nd
 fail "~d"
 refine Zqe (Zab (pv 0)) ?_
 fail "~aK a aJ an g a f aI ap g a f d h v y aW"
 exact Zam Zc9 (Zab (pv 1)) Zag
 fail "~D aW j a b w c a e"
 exact Zfa (Zab (pv 0))
 fail "~d O g a f V a b"
 refine Zg5 (cn := []) ?_ (Zd8 (x := "row") (cn := []) (ci := []) (by decide +kernel)) ?_ ?_ ?_
 fail "~a"
 refine Zb6 ?_
 fail "~aV"
 refine Zcm ?_
 fail "~aq p"
 exact Zam Zew (Zab (pv 1)) Zag
 fail "~t 6 t V a b"
 refine Zg5 (cn := []) ?_ (Zy6 (by decide +kernel)) ?_ ?_ ?_
 fail "~a"
 exact Zb6 (Zab (pv 0))
 fail "~t 6 t"
 exact Zhi Ze9 (Zab (pv 0))
 fail "~c a c a e l r b w b"
 refine Zam Ze4 ?_ ?_
 exact Zam Zaw (Zab (pv 4)) (Zab (pv 2))
 fail "~aq p"
 exact Zam Zew (Zab (pv 1)) Zag
 fail "~c a a"
theorem Zc6 (T : Top K mg) : Fn P w K mg base 1 "_law_spoilt_step" ["claim", "made", "step", "some"] Zas := by
 refine (fun h => h : _ → Fn P w K mg base 1 "_law_spoilt_step" ["claim", "made", "step", "some"] (Za5 4 10 Za2)) (Zbf (N := ["claim", "made", "step", "some", "far", "names", "many", "rows", "wrong", "name"]) (k := 0) T.t_law_spoilt_step Zc8 (by fail "~U4") ?_)
 intro f cdv A outer s H E hr
 unfold Za2
 have nd := Zc8.nd
 fail "~d H g a f K u b j a b k c a b ab b ae b"
 exact Zdd
 fail "~b n b"
 exact Zam Zhs Zag Zag
 fail "~b aa j a b k c a c a a a a a a a p s d 9 g a f j a b z c a d aD g a f"
 refine Zdr (Zkb (by rfl)) ?_ T.n_max Zuy ?_
 fail "~a b m b j a b k c a c a a d h F p s d am g a f u b"
 exact Zdd
 fail "~b 8 a b o c a b"
 refine Zam Zaw (Zab (pv 2)) ?_
 fail "~r b m c a b"
 refine Zat (Zab (pv 2)) Zbe ?_
 refine Zcm ?_
 fail "~ab b 0 b r b n b m c a a b m b r b o c a b r b n c a b r b"
 exact Zdd
 fail "~b m c a a c a a a a a a a a a a e l K"
 refine Zam Zaw (Zab (pv 8)) ?_
 fail "~u b P r b u b q c a c a aT Y c a p s d h F p s e l r b n b x c a a d h F p s e l K u b r b n b x b m b m c a a a a b r b n b m b x b m c a a a a b r b n b m b m b x c a a a a c a a a p s d h F p s d"
 refine Zbm (i := 9) ?_ ?_ ?_ ?_
 fail "~g a f K u b m b aS b ab b aq R s aS c a a a a p"
 refine Zam Zew ?_ Zag
 fail "~s e l r b n b"
 refine Zam Zc9 ?_ (Zab (pv 6))
 fail "~s b"
 refine Zam Zc9 ?_ (Zab (pv 6))
 fail "~s b"
 exact (Zab (pv 9))
 fail "~c a a a a d h F p s d am g a f u b r b n b j a b z c a c a a b r b n b ab c a a b r b n b ae c a a b r b n b n c a a b r b n b 0 c a a b r b n b"
 exact Zdd
 fail "~c a a c a a a a a a e l"
 refine Zbd ixf (Zab (pv 8)) ?_ (fun _ _ => rfl)
 fail "~p s d 4 g a f P z r b 0 c a d am g a f u b"
 refine Zbd ixf (Zab (pv 7)) ?_ (fun _ _ => rfl)
 fail "~R s j a b Z c a b r b R s j a b Z c a c a b u b m c a b"
 exact Zam Zhs Zag Zag
 fail "~b"
 refine Zam Zfd Zag ?_
 fail "~j a b z c a c a a a a a e l r b n b"
 refine Zbd ixf (Zab (pv 8)) ?_ (fun _ _ => rfl)
 fail "~p s c a a"
theorem Zif (T : Top K mg) : Fn P w K mg base 7 "_law_refused" ["claim", "steps"] Zd1 := by
 refine (fun h => h : _ → Fn P w K mg base 7 "_law_refused" ["claim", "steps"] (Za5 2 4 Zb0)) (Zbf (N := ["claim", "steps", "told", "e"]) (k := 6) T.t_law_refused Zez (by fail "~U2") ?_)
 intro f cdv A outer s H E hr
 unfold Zb0
 have nd := Zez.nd
 obtain ⟨C, cV, hE, hmc, hex⟩ := T.h_NoStep_NoStep
 fail "~d"
 refine Zbm (i := 2) ?_ ?_ ?_ Zdd
 fail "~g a f d"
 refine Zmq (k := 6) (iE := 3) (C := C) (cV := cV) (xn := "NoStep") (av := some "step") (ps := ["claim", "steps"]) ?_ ?_ ?_ ?_ ?_ ?_ ?_ ?_ ?_ ?_ ?_
 fail "~e J ah a b i b k c a a"
 exact (Zhc T)
 fail "~T W b i b k c a a"
 exact hmc
 exact hex
 fail "~g a a"
 intro i ex oe c1 c2
 refine Zg9 ?_ Zm1
 refine Zl8 (j := 2) ?_ ?_ ?_ ?_ ?_
 fail "~g a"
 decide
 fail "~f"
 refine Zrm (iE := 3) (C := C) (xn := "NoStep") (k := 1) ?_ ?_ ?_ ?_ ?_ ?_ ?_
 fail "~2 T"
 exact c1
 exact c2
 fail "~a a f e aH"
theorem Zk2 (T : Top K mg) : Fn P w K mg base 7 "_law_plain" ["claim", "steps"] Ze7 := by
 refine (fun h => h : _ → Fn P w K mg base 7 "_law_plain" ["claim", "steps"] (Za5 2 4 Zcp)) (Zbf (N := ["claim", "steps", "kinds", "e"]) (k := 6) T.t_law_plain Zgj (by fail "~U2") ?_)
 intro f cdv A outer s H E hr
 unfold Zcp
 have nd := Zgj.nd
 obtain ⟨C, cV, hE, hmc, hex⟩ := T.h_NoStep_ClaimError
 obtain ⟨i0_0, i0_1, i0_2, hJ0, mi0_0, mi0_1, mi0_2⟩ := T.i_NoStep_0
 obtain ⟨i1_0, i1_1, i1_2, i1_3, hJ1, mi1_0, mi1_1, mi1_2, mi1_3⟩ := T.i_NoStep_1
 fail "~d O g a f C d"
 refine Zmq (k := 6) (iE := 3) (C := C) (cV := cV) (xn := "NoStep") (av := some "step") (ps := ["claim", "steps"]) ?_ ?_ ?_ ?_ ?_ ?_ ?_ ?_ ?_ ?_ ?_
 fail "~e J ah a b i b k c a a"
 exact (Zhc T)
 fail "~T W b i b k c a a"
 exact hmc
 exact hex
 fail "~g a a"
 intro i ex oe c1 c2
 refine Zg9 ?_ ?_
 refine Zl8 (j := 2) ?_ ?_ ?_ ?_ ?_
 fail "~g a"
 decide
 fail "~f"
 refine Zrh ?_
 refine Zgz ?_ ?_
 refine Zrq (f := "step") (iE := 3) (C := C) (xn := "NoStep") (k := 1) ?_ ?_ ?_ ?_ ?_ ?_ ?_
 fail "~2 T"
 exact T.o_NoStep
 exact c1
 fail "~ar a f"
 refine Zgz ?_ Zqn
 refine Zqd (f := "step") (cs := [i0_0, i0_1, i0_2]) (iE := 3) (C := C) (xn := "NoStep") (k := 1) ?_ ?_ ?_ ?_ ?_ ?_ ?_ ?_
 fail "~2 T"
 exact hJ0
 exact c1
 fail "~ar"
 exact T.n_ValueError
 fail "~a f"
 refine Zg9 ?_ Zm1
 refine Zl8 (j := 2) ?_ ?_ ?_ ?_ ?_
 fail "~g a"
 decide
 fail "~f"
 refine Zzh Zaw ?_ ?_
 exact Yaz (Zab (pv 2))
 refine Zrh ?_
 refine Zgz ?_ ?_
 refine Zkl (f := "step") (cs := [i1_0, i1_1, i1_2, i1_3]) (iE := 3) (C := C) (xn := "NoStep") (k := 1) ?_ ?_ ?_ ?_ ?_ ?_ ?_ ?_ (Zhq (by rfl) (by exact mi1_0) (Zhq (by rfl) (by exact mi1_1) (Zhq (by rfl) (by exact mi1_2) (Zhq (by rfl) (by exact mi1_3) Zpc))))
 fail "~2 T"
 exact hJ1
 exact c1
 exact (by decide : 4 ≤ 1000)
 fail "~ar a f"
 refine Zgz ?_ Zqn
 refine Zkl (f := "step") (cs := [i0_0, i0_1, i0_2]) (iE := 3) (C := C) (xn := "NoStep") (k := 1) ?_ ?_ ?_ ?_ ?_ ?_ ?_ ?_ (Zhq (by rfl) (by exact mi0_0) (Zhq (by rfl) (by exact mi0_1) (Zhq (by rfl) (by exact mi0_2) Zpc)))
 fail "~2 T"
 exact hJ0
 exact c1
 exact (by decide : 3 ≤ 1000)
 fail "~ar a f e l"
 refine Zdu (Ze0 hr.units) (Zab (pv 2)) ?_ (Zaq _)
 fail "~u b ae b ae b ae b ae c a a a a"
theorem Zfy (T : Top K mg) : Fn P w K mg base 1 "_law_is_due" ["found", "due"] Zc5 := by
 refine (fun h => h : _ → Fn P w K mg base 1 "_law_is_due" ["found", "due"] (Za5 2 3 Zce)) (Zbf (N := ["found", "due", "row"]) (k := 0) T.t_law_is_due Zfl (by fail "~U2") ?_)
 intro f cdv A outer s H E hr
 unfold Zce
 fail "~d h v y B A M a b i b"
 refine Zfi ?_ T.n_list Zmg
 fail "~a c a a D"
 exact Zan (Zcs hr.units) (Zab (pv 0)) (Zab (pv 1)) (Zaq _)
 fail "~e L d G a"
 exact Zb6 (Zab (pv 0))
 refine Zc7 (i := 2) ?_ ?_ ?_
 exact Zfl.nd
 fail "~a f e h v y B A M a b o b"
 refine Zfi ?_ T.n_tuple Zg0
 fail "~a c a a D aU"
 refine Zg5 (cn := []) ?_ (Zd8 (x := "one") (cn := []) (ci := []) (by decide +kernel)) ?_ ?_ ?_
 fail "~a"
 exact Zb6 (Zab (pv 2))
 fail "~t 6 t M a b i b aE a c a a I e L e L"
theorem Zfz (T : Top K mg) : Fn P w K mg base 8 "_law_wrong_right" ["claim", "wrong"] Zbl := by
 refine (fun h => h : _ → Fn P w K mg base 8 "_law_wrong_right" ["claim", "wrong"] (Za5 2 8 Za3)) (Zbf (N := ["claim", "wrong", "made", "stays", "said", "due", "handed", "found"]) (k := 7) T.t_law_wrong_right Zc3 (by fail "~U2") ?_)
 intro f cdv A outer s H E hr
 unfold Za3
 have nd := Zc3.nd
 fail "~d O g a f aN a b i b k c a a d N g a f aj a b k c a d H g a f"
 refine Zap (Zhx T) (hr.mono (by decide)) ?_ ?_
 fail "~a b i b 8 a b k c a c a a d 9 g a f S aA aT"
 refine Zcm ?_
 fail "~ab u b 0 c a 3 aA j a b o c a j a b k c a d h v y aL aj a b k c a y B A M a b x b aE a c a a D"
 exact Zan (Zcs hr.units) (Zab (pv 4)) (Zab (pv 5)) (Zaq _)
 fail "~e L d aD g a f 8 a b k c a d h"
 refine Zan (Ze0 hr.units) ?_ ?_ (Zaq _)
 fail "~j a b o c a j a b k c a e l S"
 refine Zap (Zfy T) (hr.mono (by decide)) ?_ ?_
 fail "~a b ah a b i b X c a a b o c a a 3"
 refine Zdu (Ze0 hr.units) ?_ (Zab (pv 3)) (Zaq _)
 fail "~aj a b X c a d 4 g a f"
 refine Zap (Zif T) (hr.mono (by decide)) ?_ ?_
 fail "~a b i b X c a a d h v y B A ag a b Z b j a b k c a c a a D"
 refine Zan (Zcs hr.units) (Zab (pv 7)) ?_ (Zaq _)
 fail "~j a b o c a e L d h v y aL aj a b X c a D aL aj a b k c a e L e l"
 refine Zap (Zk2 T) (hr.mono (by decide)) ?_ ?_
 fail "~a b i b 8 a b k c a c a a"
theorem Zf5 (T : Top K mg) : Fn P w K mg base 7 "_law_good_right" ["claim", "steps"] Zcj := by
 refine (fun h => h : _ → Fn P w K mg base 7 "_law_good_right" ["claim", "steps"] (Za5 2 6 Zba)) (Zbf (N := ["claim", "steps", "due", "handed", "turn", "found"]) (k := 6) T.t_law_good_right Zdg (by fail "~U2") ?_)
 intro f cdv A outer s H E hr
 unfold Zba
 have nd := Zdg.nd
 fail "~d O g a f aN a b i b k c a a d N g a f 8 a b k c a d G a Q a b m c a ap g a f d 9 g a f ah a b i b w c a a d h v y B A"
 refine Zap (Zfy T) (hr.mono (by decide)) ?_ ?_
 fail "~a b ac b o c a a D"
 exact Zan (Zcs hr.units) (Zab (pv 3)) (Zab (pv 1)) (Zaq _)
 fail "~e L e J"
 refine Zmr PySem.F.slot_list_append PySem.F.type_list_append Zet (Zab (pv 5)) ?_
 fail "~b 0 c a e L"
theorem Zz9 (T : Top K mg) : Fn P w K mg base 9 "law" ["script"] Zok := by
 refine (fun h => h : _ → Fn P w K mg base 9 "law" ["script"] (Za5 1 12 Zrz)) (Zbf (N := ["script", "some", "claim", "steps", "due", "k", "made", "more", "at", "bad", "wrong", "later"]) (k := 8) T.t_law Zvg (by fail "~U1") ?_)
 intro f cdv A outer s H E hr
 unfold Zrz
 have nd := Zvg.nd
 obtain ⟨c_ClaimError, m_ClaimError, j_ClaimError⟩ := T.xi_ClaimError
 fail "~d"
 refine Zbm (i := 1) ?_ ?_ ?_ ?_
 fail "~g a f"
 refine Zat ?_ ?_ Zbe
 fail "~af a b ai a b i b m c a a b m c a a Y d O g a f"
 refine Zap (Zgt T) (hr.mono (by decide)) ?_ ?_
 fail "~a b"
 refine Zap (Zkd T) (hr.mono (by decide)) ?_ ?_
 fail "~a b i b m c a a b U c a a d N g a f"
 refine Zap (Zfv T) (hr.mono (by decide)) ?_ ?_
 fail "~a b o b i b m b aq p U c a a a a d h v 1 F p U 5"
 refine Zan (Zcs hr.units) (Zab (pv 3)) ?_ (Zaq _)
 fail "~C e N g a f aC"
 refine Zg5 (cn := ["steps"]) ?_ (Zd8 (x := "k") (cn := ["steps"]) (ci := [3]) (by decide +kernel)) ?_ ?_ ?_
 fail "~a Q a b p U c a t 6 t r b n b aF"
 refine Zam Zaw ?_ (Zab (pv 0))
 fail "~j a b k c a c a a d h B A"
 refine Zap (Zf5 T) (hr.mono (by decide)) ?_ ?_
 fail "~a b o b w c a a e L d H g a f aN a b o b w c a a d G a Q a b m c a ao g a f d 4 g a f"
 refine Zat ?_ ?_ Zbe
 fail "~af a b ai a b i b aR c a a b m c a a Y d am g a f R aM aa j a b w c a d"
 refine Zbm (i := 9) ?_ ?_ ?_ ?_
 fail "~g a f"
 refine Zap (Zc6 T) (hr.mono (by decide)) ?_ ?_
 fail "~a b o b aV aG b"
 refine Zbd ixf ?_ (Zab (pv 8)) (fun _ _ => rfl)
 fail "~aC u b r b n b m c a a c a b"
 refine Zat (Zab (pv 7)) ?_ Zbe
 fail "~Y c a a a a d"
 refine Zbm (i := 10) ?_ ?_ ?_ ?_
 fail "~g a f P P"
 refine Zat (Zab (pv 3)) Zbe ?_
 fail "~aG u b"
 exact (Zab (pv 9))
 fail "~c a"
 refine Zat (Zab (pv 3)) ?_ Zbe
 fail "~aG d h F p aM d"
 refine Zbm (i := 11) ?_ ?_ ?_ ?_
 fail "~g a f P"
 exact Zam Zaw (Zab (pv 8)) Zag
 fail "~R aM"
 refine Zam Zfd ?_ (Zab (pv 8))
 fail "~j a b"
 exact (Zab (pv 10))
 fail "~c a d"
 refine Zbm (i := 9) ?_ ?_ ?_ ?_
 fail "~g a f"
 refine Zap (Zc6 T) (hr.mono (by decide)) ?_ ?_
 fail "~a b o b aV aG b"
 refine Zbd ixf ?_ (Zab (pv 8)) (fun _ _ => rfl)
 fail "~aC u b r b n b m c a a c a b"
 refine Zat (Zab (pv 7)) ?_ Zbe
 fail "~Y c a a a a e"
 refine Zbm (i := 10) ?_ ?_ ?_ ?_
 fail "~g a f P P"
 refine Zat (Zab (pv 10)) Zbe ?_
 exact Zcm (Zab (pv 11))
 fail "~u b"
 exact (Zab (pv 9))
 fail "~c a"
 refine Zat (Zab (pv 10)) ?_ Zbe
 exact Zcm (Zab (pv 11))
 fail "~e h B A"
 refine Zap (Zfz T) (hr.mono (by decide)) ?_ ?_
 fail "~a b o b"
 exact (Zab (pv 10))
 fail "~c a a e L d aD g a f u b ad"
 exact T.e_NotWon
 fail "~b n c a b ad"
 exact T.e_TooMany
 fail "~b n c a b ad"
 exact T.e_NoPick
 fail "~b n c a b ad"
 exact T.e_NoBack
 fail "~b n c a b ad"
 exact T.e_NoRow
 fail "~b n c a b ad"
 exact T.e_NoLine
 fail "~b n c a b"
 refine Zpa (k := 1) (f := "line") ?_ ?_ ?_ ?_
 exact (Zim T)
 exact T.e_NoText
 fail "~W b m c a b"
 refine Zpa (k := 1) (f := "step") ?_ ?_ ?_ ?_
 fail "~2"
 exact T.e_NoStep
 fail "~W b m c a c a a a a a a a a d h aU"
 refine Zg5 (cn := []) ?_ (Zd8 (x := "one") (cn := []) (ci := []) (by decide +kernel)) ?_ ?_ ?_
 fail "~a"
 exact Zb6 (Zab (pv 6))
 fail "~t 6 t"
 refine Zvl (t := [("NotWon", true), ("TooMany", true), ("NoPick", true), ("NoBack", true), ("NoRow", true), ("NoLine", true), ("NoText", true), ("NoStep", true)]) (c := c_ClaimError) (L := ["NotWon", "TooMany", "NoPick", "NoBack", "NoRow", "NoLine", "NoText", "NoStep"]) ?_ ?_ (Zab (pv 0)) ?_ ?_ ?_
 exact T.x_l
 fail "~a"
 exact m_ClaimError
 exact j_ClaimError
 fail "~ar I e L e l S aA ah a b o b C c a a C S"
 refine Zdu (Ze0 hr.units) ?_ Zag (Zaq _)
 refine Zrj (k := 1) (f := "step") ?_ ?_ ?_ ?_
 fail "~2"
 exact T.e_NoStep
 fail "~W b m c a 3"
 refine Zdu (Ze0 hr.units) ?_ Zag (Zaq _)
 refine Zrj (k := 1) (f := "line") ?_ ?_ ?_ ?_
 exact (Zim T)
 exact T.e_NoText
 fail "~W b m c a"
theorem Zya (T : Top K mg) : Fn P w K mg base 9 "law" ["script"] Zok := by
 exact Zz9 T
end
theorem walk {l : PySem.W.OpenLaw} {q : Program} {loose : List Str} {XP : (Str -> Option Value) -> Heap -> Prop} {YP : World -> Heap -> Prop} {d : DefRec} {K : Params -> PySem.W.Frag} (hn : l.most = some 63) (hdf : d.params.defaults = [])
  (hd : d.name = "law") (hY : ∀ (w : World) (h : Heap), YP w h → (K w.params).In h) (hT : ∀ (w : World) (mg : Str → Option Value) (h : Heap), (K w.params).In h → h.Ns mainGlobals mg → Top (K w.params) mg)
  (pure : ∀ ns : List Int, ns.length ≤ 63 -> ∃ Hd', Zok [.fl (ns.map .int)] [] = some (.bl true, Hd')) : PySem.W.WalkO q loose XP YP l.row.toRowW d [] (fun f vs => PySem.call f vs) := by
 refine L2.walk_ofK (n := 63) (k := 9) (x := "script") (CX := CX0) (sp := Zx9 Zok) hn (by decide) hdf ⟨rfl, by decide, by decide, rfl⟩ hY (fun w mg fa h KX G hmg => ?_) (Zq8 pure) (fun _ _ _ _ z => z)
 have T := hT w mg h KX G
 obtain ⟨f, fd, F, hm⟩ := T.t_law
 have e0 : f = fa := by rw [hd] at hmg; rw [hm] at hmg; cases hmg; rfl
 subst e0
 have B := F.binds (ps := ["script"]) (fun _ _ _ _ _ _ us hl => by obtain ⟨_, rfl⟩ := us1 hl; rfl)
 refine ⟨fd, fun s u => ?_, fun base kb nb => ?_⟩
 ·obtain ⟨oc, od, kV, doc, pm, an, cdv, ct, osl, rfl, lk, hcd⟩ := F.ex
  exact .of_eq rfl
 ·obtain ⟨f', fd', G1, hb, hk, hm', oc', od', osl', lk'⟩ := (Zya (P := l.prog) (w := w) (base := base) T).ex
  have e1 : f' = f := by rw [hm] at hm'; cases hm'; rfl
  subst e1
  have e2 : fd' = fd := by
   obtain ⟨oc, od, kV, doc, pm, an, cdv, ct, osl, e3, lk, hcd⟩ := F.ex
   rw [lk] at lk'
   have e4 := Option.some.inj lk'
   injection e4 with _ _ e5 _
   injection e5 with e6
   exact e6.symm
  subst e2
  exact G1
end K08
open PySem PySem.W PyProof.Rows L2 DL
local macro_rules | `(tactic| fail $s:str) => do
 if s.getString.take 1 != "=" then Lean.Macro.throwUnsupported
 let i := Lean.mkIdent
 match (s.getString.drop 1).toString with
  | "T" => `(tactic| (show Tf (L2.KOf $(i `KX)) _ _ _; dsimp only [L2.KOf]; refine' tf_mk $(i `KX) $(i `G) ?a ?l ?c ?k; (case a => k_is); (case l => k_is); (case c => k_is); (case k => k_is)))
  | "N" => `(tactic| (refine' PySem.W.mg_none_of $(i `KX) $(i `G) ?z; (case z => k_is)))
  | _ => Lean.Macro.throwUnsupported
set_option maxRecDepth 100000 in
set_option maxHeartbeats 0 in
theorem PySem.Challenge.cw_allsome_k25_rows_made_by_steps_holds : PySem.Challenge.rw_allsome_k25_rows_made_by_steps.Holds := by
 w_on; o_law; refine holds_open (q := (PySem.Challenge.vwOf PySem.Challenge.pw_allsome_k25_rows_made_by_steps)) (loose := []) (Xt := PySem.Challenge.xt0) (XP := XL (PySem.Challenge.vwOf PySem.Challenge.pw_allsome_k25_rows_made_by_steps) []) (Yf := Hook.obs PySem.Challenge.hk0) (Ya := Hook.val PySem.Challenge.hk0) (YP := InK PySem.Challenge.mk0.heap_39) (N := 6358) PySem.Challenge.left0 (Hook.of PySem.Challenge.hk0) (Hook.keeps PySem.Challenge.hk0) (fun s e => xl_of s (Bool.and_eq_true_iff.mp e).1) XL.keeps (by rfl) (by rfl) (by rfl) (fun s e => recFacts_of (Bool.and_eq_true_iff.mp e).2) (by rfl) (by assumption) (by decide +kernel) ⟨rfl, rfl, rfl, rfl, rfl, by decide +kernel⟩ ?hw ?hc
 (case hw => w_witness2)
 k_fill
 refine K08.walk (l := PySem.Challenge.rw_allsome_k25_rows_made_by_steps) rfl rfl rfl (fun w h Y => Y) ?T K08.pure_law
 case T =>
  intro w mg h KX G
  have y_NoStep : ∃ C Cl fI, YCl (L2.KOf KX) mg "NoStep" "step" "NoStep.__init__" K08.si_NoStep C Cl fI := by
   dsimp only [L2.KOf]
   refine' ⟨_, _, _, Zva KX G ?za ?zb ?zc ?zd ?ze ?zf ?zg ?zh ?zi ?zj ?zl ?zm ?zn ?zo ?zp ?zq ?zr ?zs ?zt ?zu ?zv ?zw⟩
   (case za => k_is); (case zb => k_is); (case ze => k_is); (case zc => k_is); (case zd => kernel_rfl); (case zf => k_is); (case zg => k_is); (case zh => k_is); (case zi => k_is); (case zj => k_is); (case zl => k_is); (case zm => k_is); (case zn => k_is); (case zo => k_is); (case zp => k_is); (case zq => k_is); (case zr => k_is); (case zs => k_is); (case zt => k_is); (case zu => k_is); (case zv => k_is); (case zw => k_is)
  have y_NoText : ∃ C Cl fI, YCl (L2.KOf KX) mg "NoText" "line" "NoText.__init__" K08.si_NoText C Cl fI := by
   dsimp only [L2.KOf]
   refine' ⟨_, _, _, Zva KX G ?za ?zb ?zc ?zd ?ze ?zf ?zg ?zh ?zi ?zj ?zl ?zm ?zn ?zo ?zp ?zq ?zr ?zs ?zt ?zu ?zv ?zw⟩
   (case za => k_is); (case zb => k_is); (case ze => k_is); (case zc => k_is); (case zd => kernel_rfl); (case zf => k_is); (case zg => k_is); (case zh => k_is); (case zi => k_is); (case zj => k_is); (case zl => k_is); (case zm => k_is); (case zn => k_is); (case zo => k_is); (case zp => k_is); (case zq => k_is); (case zr => k_is); (case zs => k_is); (case zt => k_is); (case zu => k_is); (case zv => k_is); (case zw => k_is)
  have h_NoStep_NoStep : ∃ C cV, mg "NoStep" = some (.ref C) ∧ mg "NoStep" = some cV ∧ PySem.W.exmOne (L2.KOf KX) (.ref C) cV = some true := by
   dsimp only [L2.KOf]
   refine' ⟨_, _, Zd3 KX G ?za, PySem.W.mg_of KX G ?zb, ?zc⟩
   (case za => k_is); (case zb => k_is); (case zc => kernel_rfl)
  have h_NoStep_ClaimError : ∃ C cV, mg "NoStep" = some (.ref C) ∧ mg "ClaimError" = some cV ∧ PySem.W.exmOne (L2.KOf KX) (.ref C) cV = some true := by
   dsimp only [L2.KOf]
   refine' ⟨_, _, Zd3 KX G ?za, PySem.W.mg_of KX G ?zb, ?zc⟩
   (case za => k_is); (case zb => k_is); (case zc => kernel_rfl)
  have i_NoStep_0 : ∃ c0 c1 c2, Zwl (L2.KOf KX) mg "NoStep" [c0, c1, c2] ∧ mg "NoText" = some (.ref c0) ∧ mg "NotWon" = some (.ref c1) ∧ mg "TooMany" = some (.ref c2) := by
   dsimp only [L2.KOf]
   refine' ⟨_, _, _, Zu7 KX G ?za ?zr ?zs, Zd3 KX G ?zc0, Zd3 KX G ?zc1, Zd3 KX G ?zc2⟩
   (case za => k_is)
   (case zc0 => k_is); (case zc1 => k_is); (case zc2 => k_is)
   (case zr => kernel_rfl); (case zs => kernel_rfl)
  have i_NoStep_1 : ∃ c0 c1 c2 c3, Zwl (L2.KOf KX) mg "NoStep" [c0, c1, c2, c3] ∧ mg "NoBack" = some (.ref c0) ∧ mg "NoLine" = some (.ref c1) ∧ mg "NoPick" = some (.ref c2) ∧ mg "NoRow" = some (.ref c3) := by
   dsimp only [L2.KOf]
   refine' ⟨_, _, _, _, Zu7 KX G ?za ?zr ?zs, Zd3 KX G ?zc0, Zd3 KX G ?zc1, Zd3 KX G ?zc2, Zd3 KX G ?zc3⟩
   (case za => k_is)
   (case zc0 => k_is); (case zc1 => k_is); (case zc2 => k_is); (case zc3 => k_is)
   (case zr => kernel_rfl); (case zs => kernel_rfl)
  have v_claims_row : Fv (L2.KOf KX) mg "claims_row" := by
   dsimp only [L2.KOf]
   refine' fv_mk KX G ?za
   (case za => k_is)
  have e_NoStep : Yn (L2.KOf KX) mg "NoStep" := by
   dsimp only [L2.KOf]
   refine' Zyo KX G ?za
   (case za => k_is)
  have e_NoText : Yn (L2.KOf KX) mg "NoText" := by
   dsimp only [L2.KOf]
   refine' Zyo KX G ?za
   (case za => k_is)
  have e_NoLine : Xn (L2.KOf KX) mg "NoLine" := by
   dsimp only [L2.KOf]
   refine' Zol KX G ?za ?zb ?zc
   (case za => k_is); (case zb => k_is); (case zc => kernel_rfl)
  have e_NoRow : Xn (L2.KOf KX) mg "NoRow" := by
   dsimp only [L2.KOf]
   refine' Zol KX G ?za ?zb ?zc
   (case za => k_is); (case zb => k_is); (case zc => kernel_rfl)
  have e_NoBack : Xn (L2.KOf KX) mg "NoBack" := by
   dsimp only [L2.KOf]
   refine' Zol KX G ?za ?zb ?zc
   (case za => k_is); (case zb => k_is); (case zc => kernel_rfl)
  have e_NoPick : Xn (L2.KOf KX) mg "NoPick" := by
   dsimp only [L2.KOf]
   refine' Zol KX G ?za ?zb ?zc
   (case za => k_is); (case zb => k_is); (case zc => kernel_rfl)
  have e_TooMany : Xn (L2.KOf KX) mg "TooMany" := by
   dsimp only [L2.KOf]
   refine' Zol KX G ?za ?zb ?zc
   (case za => k_is); (case zb => k_is); (case zc => kernel_rfl)
  have e_NotWon : Xn (L2.KOf KX) mg "NotWon" := by
   dsimp only [L2.KOf]
   refine' Zol KX G ?za ?zb ?zc
   (case za => k_is); (case zb => k_is); (case zc => kernel_rfl)
  have o_NoStep : IsiO (L2.KOf KX) mg "NoStep" := by
   dsimp only [L2.KOf]
   refine' Zvx KX G ?za ?zb
   (case za => k_is); (case zb => kernel_rfl)
  have x_l : Zoi (L2.KOf KX) ["NotWon", "TooMany", "NoPick", "NoBack", "NoRow", "NoLine", "NoText", "NoStep"] := by
   dsimp only [L2.KOf]
   refine' Zec ?za7 ?zg7 ?zh7 ?zi7 ?zj7 ?zl7 ?zm7 ?zn7 ?zo7 (Zec ?za6 ?zg6 ?zh6 ?zi6 ?zj6 ?zl6 ?zm6 ?zn6 ?zo6 (Zec ?za5 ?zg5 ?zh5 ?zi5 ?zj5 ?zl5 ?zm5 ?zn5 ?zo5 (Zec ?za4 ?zg4 ?zh4 ?zi4 ?zj4 ?zl4 ?zm4 ?zn4 ?zo4 (Zec ?za3 ?zg3 ?zh3 ?zi3 ?zj3 ?zl3 ?zm3 ?zn3 ?zo3 (Zec ?za2 ?zg2 ?zh2 ?zi2 ?zj2 ?zl2 ?zm2 ?zn2 ?zo2 (Zec ?za1 ?zg1 ?zh1 ?zi1 ?zj1 ?zl1 ?zm1 ?zn1 ?zo1 (Zec ?za0 ?zg0 ?zh0 ?zi0 ?zj0 ?zl0 ?zm0 ?zn0 ?zo0 (Zzy))))))))
   (case za0 => k_is); (case zg0 => k_is); (case zh0 => k_is); (case zi0 => k_is); (case zj0 => k_is); (case zl0 => k_is); (case zm0 => k_is); (case zn0 => k_is); (case zo0 => k_is); (case za1 => k_is); (case zg1 => k_is); (case zh1 => k_is); (case zi1 => k_is); (case zj1 => k_is); (case zl1 => k_is); (case zm1 => k_is); (case zn1 => k_is); (case zo1 => k_is); (case za2 => k_is); (case zg2 => k_is); (case zh2 => k_is); (case zi2 => k_is); (case zj2 => k_is); (case zl2 => k_is); (case zm2 => k_is); (case zn2 => k_is); (case zo2 => k_is); (case za3 => k_is); (case zg3 => k_is); (case zh3 => k_is); (case zi3 => k_is); (case zj3 => k_is); (case zl3 => k_is); (case zm3 => k_is); (case zn3 => k_is); (case zo3 => k_is); (case za4 => k_is); (case zg4 => k_is); (case zh4 => k_is); (case zi4 => k_is); (case zj4 => k_is); (case zl4 => k_is); (case zm4 => k_is); (case zn4 => k_is); (case zo4 => k_is); (case za5 => k_is); (case zg5 => k_is); (case zh5 => k_is); (case zi5 => k_is); (case zj5 => k_is); (case zl5 => k_is); (case zm5 => k_is); (case zn5 => k_is); (case zo5 => k_is); (case za6 => k_is); (case zg6 => k_is); (case zh6 => k_is); (case zi6 => k_is); (case zj6 => k_is); (case zl6 => k_is); (case zm6 => k_is); (case zn6 => k_is); (case zo6 => k_is); (case za7 => k_is); (case zg7 => k_is); (case zh7 => k_is); (case zi7 => k_is); (case zj7 => k_is); (case zl7 => k_is); (case zm7 => k_is); (case zn7 => k_is); (case zo7 => k_is)
  have xi_ClaimError : ∃ c, mg "ClaimError" = some (.ref c) ∧ Is1 (L2.KOf KX) (.ref c) [("NotWon", true), ("TooMany", true), ("NoPick", true), ("NoBack", true), ("NoRow", true), ("NoLine", true), ("NoText", true), ("NoStep", true)] := by
   dsimp only [L2.KOf]
   refine' ⟨_, Zd3 KX G ?zc, Zc1 ?za7 ?zs7 (Zc1 ?za6 ?zs6 (Zc1 ?za5 ?zs5 (Zc1 ?za4 ?zs4 (Zc1 ?za3 ?zs3 (Zc1 ?za2 ?zs2 (Zc1 ?za1 ?zs1 (Zc1 ?za0 ?zs0 (Zvm))))))))⟩
   (case zc => k_is); (case za0 => k_is); (case za1 => k_is); (case za2 => k_is); (case za3 => k_is); (case za4 => k_is); (case za5 => k_is); (case za6 => k_is); (case za7 => k_is); (case zs0 => kernel_rfl); (case zs1 => kernel_rfl); (case zs2 => kernel_rfl); (case zs3 => kernel_rfl); (case zs4 => kernel_rfl); (case zs5 => kernel_rfl); (case zs6 => kernel_rfl); (case zs7 => kernel_rfl)
  exact ⟨by fail "=T", by fail "=T", by fail "=T", by fail "=T", by fail "=T", by fail "=T", by fail "=T", by fail "=T", by fail "=T", by fail "=T", by fail "=T", by fail "=T", by fail "=T", by fail "=T", by fail "=T", by fail "=T", by fail "=T", by fail "=T", by fail "=T", by fail "=T", by fail "=T", by fail "=T", by fail "=T", by fail "=T", by fail "=T", by fail "=T", by fail "=T", by fail "=T", by fail "=T", by fail "=T", by fail "=T", by fail "=T", by fail "=T", by fail "=T", by fail "=T", by fail "=T", by fail "=N", by fail "=N", by fail "=N", by fail "=N", by fail "=N", by fail "=N", by fail "=N", by fail "=N", by fail "=N", by fail "=N", by fail "=N", by fail "=N", by fail "=N", by fail "=N", y_NoStep, y_NoText, h_NoStep_NoStep, h_NoStep_ClaimError, i_NoStep_0, i_NoStep_1, v_claims_row, e_NoStep, e_NoText, e_NoLine, e_NoRow, e_NoBack, e_NoPick, e_TooMany, e_NotWon, o_NoStep, x_l, xi_ClaimError⟩
