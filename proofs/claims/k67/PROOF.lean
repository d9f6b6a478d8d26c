import PyProof.Rows.All
import Wide.All
import Wide.FinOn
import Lean
import PyProof.EqAt
import PyProof.EqKinds
import PyProof.TupleCall
import KE.KDictList
import KE.KDictOf
import KE.KIntText
import KE.KItemsList
import KE.KSortKey
import KE.KSortTup
import KE.KTryMore
import PyProof.AttrMissHeap
import PyProof.AutoSeq1
import PyProof.ExcAttrAll.ValueError
import PyProof.FitsBits
import PyProof.MeetsStr2
import PyProof.MinMaxWalk
import PyProof.P3Eq
import PyProof.P3In
import PyProof.ReprLen
import PyProof.Rows.DictRows
import PyProof.Rows.Own
import PyProof.Rows.RuleB_bool
import PyProof.Rows.TupIter
import PyProof.SeqI3
import PyProof.StrBlockG
import PyProof.StrOps2
import PyProof.StrWalks
import PyProof.SumWalkG
import PyProof.TupleOfSeq
import PyProof.WalkInts
import KE.KItem
import KE.KRevIter
import PySem.Challenge.RW_allsome_k67_a_match
set_option Elab.async false
set_option compiler.extract_closed false
set_option bootstrap.genMatcherCode false
set_option linter.all false
set_option maxRecDepth 100000
theorem Zo {α β : Type} {x : Option α} {f : α → Option β} {b : β} (h : x.bind f = some b) : ∃ a, x = some a ∧ f a = some b := Option.bind_eq_some_iff.1 h
theorem Zm {α β : Type} {x : Option α} {f : α → β} {b : β} (h : x.map f = some b) : ∃ a, x = some a ∧ f a = b := Option.map_eq_some_iff.1 h
theorem Zb {α β : Type} (a : α) (f : α → Option β) : (some a).bind f = f a := rfl
namespace PySem.W
open PySem
/-! the top run on a tree -/
def treeOf : List Obj → Nat → BT → Option BT
  | [], _, t => some t
  | o :: r, i, t => match ((t.ins i o).get i).isSome with
    | true => treeOf r (i + 1) (t.ins i o)
    | false => none
theorem treeOf_abs {life} : ∀ (l : List Obj) (i : Nat) (t T : BT), treeOf l i t = some T → absHeap T (i + l.length) life = ⟨(absHeap t i life).objs ++ l.toArray, life⟩
  | [], i, t, T, h => by cases h; simp [absHeap]
  | o :: r, i, t, T, h => by
    unfold treeOf at h
    cases e : ((t.ins i o).get i).isSome with
    | false => rw [e] at h; cases h
    | true =>
      rw [e] at h
      have a := treeOf_abs (life := life) r (i + 1) (t.ins i o) T h
      rw [absHeap_ins e] at a
      rw [List.length_cons, show i + (r.length + 1) = i + 1 + r.length by omega, a]
      simp [Heap.push]
def topRunT (tb : String → Option Builtin) (p : Program) (w : World) (n₀ : Nat) (ann : Option Value) : Nat → SharedT → Thread → Option SharedT
  | 0, _, _ => none
  | n + 1, s, t => match through t with
    | true => some s
    | false => match stepOk n₀ ann t with
      | false => none
      | true => match stepT (denote tb) p w s t with
        | some (s', t') => topRunT tb p w n₀ ann n s' t'
        | none => none
theorem topRun_of {tb : String → Option Builtin} {p : Program} {w : World} {n₀ : Nat} {ann : Option Value} : ∀ {n : Nat} {s s' : SharedT} {t : Thread}, topRunT tb p w n₀ ann n s t = some s' → topRun tb p w n₀ ann n s.abs t = some s'.abs
  | 0, _, _, _, h => by cases h
  | n + 1, s, s', t, h => by
    unfold topRunT at h
    unfold topRun
    cases he : through t with
    | true => rw [he] at h; cases h; rfl
    | false =>
      rw [he] at h
      cases hk : stepOk n₀ ann t with
      | false => rw [hk] at h; cases h
      | true =>
        rw [hk] at h
        cases hs : stepT (denote tb) p w s t with
        | none => rw [hs] at h; cases h
        | some r => obtain ⟨s₂, t₂⟩ := r; rw [hs] at h; rw [stepT_spec hs]; exact topRun_of h
def topT (tb : String → Option Builtin) (p : Program) (w : World) (N : Nat) (s₀ : Shared) : Option Shared :=
  match s₀.heap.isNs mainGlobals && s₀.gens.size == 0 with
  | true => (treeOf s₀.heap.objs.toList 0 .nil).bind fun T => (topRunT tb p w s₀.heap.objs.size (s₀.heap.nsMap mainGlobals "__annotations__") N ⟨T, s₀.heap.objs.size, s₀.heap.life, s₀.gens, s₀.drawn, s₀.toks, s₀.os⟩ (topStub p)).bind fun s₁ =>
    match staticsOk (importedModules p.main.body) s₀.heap s₁.abs.heap && namesBound p s₁.abs.heap && gensDone s₁.abs && laidKept s₀.heap s₁.abs.heap with
    | true => some s₁.abs
    | false => none
  | false => none
theorem topT_of {tb : String → Option Builtin} {p : Program} {w : World} {N : Nat} {s₀ r : Shared} (h : topT tb p w N s₀ = some r) : topFrom tb p w N s₀ = some r := by
  unfold topT at h
  unfold topFrom
  cases e : (s₀.heap.isNs mainGlobals && s₀.gens.size == 0) with
  | false => rw [e] at h; cases h
  | true =>
    rw [e] at h
    obtain ⟨T, h1, h⟩ := Option.bind_eq_some_iff.mp h
    obtain ⟨s₁, h2, h⟩ := Option.bind_eq_some_iff.mp h
    have a := treeOf_abs (life := s₀.heap.life) _ _ _ _ h1
    have b := topRun_of h2
    have c : (SharedT.mk T s₀.heap.objs.size s₀.heap.life s₀.gens s₀.drawn s₀.toks s₀.os).abs = s₀ := by
      unfold SharedT.abs
      have z : absHeap T s₀.heap.objs.size s₀.heap.life = s₀.heap := by
        have a' := a
        rw [Nat.zero_add] at a'
        rw [show s₀.heap.objs.size = s₀.heap.objs.toList.length by simp, a']
        obtain ⟨⟨objs, life⟩, g, d, t, o⟩ := s₀
        simp [absHeap, BT.list]
      show Shared.mk (absHeap T s₀.heap.objs.size s₀.heap.life) s₀.gens s₀.drawn s₀.toks s₀.os = s₀
      rw [z]
    rw [c] at b
    rw [b]
    exact h
end PySem.W
section
open PySem PySem.W PyProof.Rows
noncomputable def PySem.Challenge.vwOf (p : Program) : Program := { p with main := { p.main with body := [1, 2, 3, 4, 5, 6, 7, 8, 9, 11, 12, 13, 14, 15, 16, 17, 18, 19, 21, 22, 23, 24, 25, 26, 27, 29, 31, 32, 33, 34, 35, 36, 37, 38, 39, 40, 41, 42, 43, 44, 45, 46, 47].filterMap fun i => p.main.body[i]? } }
local macro_rules | `(tactic| o_head $_) => `(tactic| exact False.elim (by assumption))
set_option maxRecDepth 100000 in
set_option maxHeartbeats 0 in
theorem PySem.Challenge.mk0 : False -> PySem.Challenge.rw_allsome_k67_a_match.Holds := by
 intro f; w_on; o_law; k_head
noncomputable def PySem.Challenge.hk0 : Hook := kHook PySem.Challenge.mk0.heap_39 [2, 3, 15, 16, 18, 19, 21, 22, 23, 25, 26, 28, 29, 30, 32, 33, 35, 36, 37, 39, 40, 42, 43, 44, 46, 47, 49, 50, 51, 54, 55, 56, 59, 60, 61, 68, 69, 70, 71, 74, 81, 83, 84, 86, 87, 88, 89, 90, 93, 100, 102, 103, 105, 106, 107, 108, 109, 112, 119, 120, 121, 124, 131, 132, 133, 136, 143, 144, 145, 148, 155, 156, 157, 160, 167, 168, 169, 172, 179, 180, 181, 184, 186, 187, 189, 190, 191, 193, 194, 196, 197, 198, 200, 201, 203, 204, 205, 207, 208, 210, 211, 212, 214, 215, 217, 218, 219, 221, 222, 224, 225, 226, 229, 230, 238, 240, 241, 243, 244, 245, 247, 248, 250, 251, 252, 254, 255, 257, 258, 259, 261, 262, 264, 265, 266, 268, 269, 271, 272, 273, 275, 276, 278, 279, 280, 282, 283, 285, 286, 287, 289, 290, 292, 293, 294, 295, 296, 297, 298, 301, 303, 304, 306, 307, 308, 310, 311, 313, 314, 315, 317, 318, 320, 321, 329, 332, 333, 334, 337, 338, 339, 342, 343, 344, 346, 347, 349, 350, 351, 353, 354, 356, 357, 358, 361, 362, 363, 366, 367, 368, 371, 372, 373, 375, 376, 378, 379, 380, 382, 383, 385, 386, 387, 389, 390, 392, 393, 394, 396, 397, 399, 400, 401, 404, 405] (fun _ => by kernel_rfl)
noncomputable def PySem.Challenge.xt0 (s : Shared) : Bool := xlAt (PySem.Challenge.vwOf PySem.Challenge.pw_allsome_k67_a_match) [] s && recOk (RowW.records (OpenRow.toRowW (OpenLaw.row PySem.Challenge.rw_allsome_k67_a_match))) s
set_option maxRecDepth 100000 in
theorem PySem.Challenge.leftT (w : World) (os : OsState) : (topT treeTable (OpenLaw.row PySem.Challenge.rw_allsome_k67_a_match).prog w 6906 ⟨boot_heap w.params, Array.mk [], boot_drawn, boot_toks, os⟩).map (fun s => (openSeen (PySem.Challenge.vwOf PySem.Challenge.pw_allsome_k67_a_match) [("left_claims" : Str)] (importedModules (OpenLaw.row PySem.Challenge.rw_allsome_k67_a_match).prog.main.body) PySem.Challenge.xt0 true s, PySem.Challenge.hk0.obs s)) = some (openGood (PySem.Challenge.vwOf PySem.Challenge.pw_allsome_k67_a_match) [("left_claims" : Str)], PySem.Challenge.hk0.val w) := by
 unfold PySem.Challenge.xt0
 rewrite [PySem.W.Fast.te4187177175401517315, PySem.W.Fast.te5923862056798008813, PySem.W.Fast.te2368527892694137696, PySem.W.Fast.te3845922889242429455, PySem.W.Fast.te16598348992648001700, PySem.W.Fast.te14364793385576792824]
 kernel_rfl
theorem PySem.Challenge.left0 : LeftO (OpenLaw.row PySem.Challenge.rw_allsome_k67_a_match).prog (PySem.Challenge.vwOf PySem.Challenge.pw_allsome_k67_a_match) [("left_claims" : Str)] PySem.Challenge.xt0 PySem.Challenge.hk0.obs PySem.Challenge.hk0.val 6906 := fun w => by
 obtain ⟨⟨h, g, d, t, os⟩, hs, hv⟩ := Option.map_eq_some_iff.mp (boot_open (p := (OpenLaw.row PySem.Challenge.rw_allsome_k67_a_match).prog) (N := 6906) (by kernel_rfl) (by kernel_rfl) (fun s => by kernel_rfl) w)
 obtain ⟨r, h1, h2⟩ := Option.map_eq_some_iff.mp (PySem.Challenge.leftT w os)
 obtain ⟨e1, hv⟩ := Prod.mk.inj (show (h, g, d, t) = _ from hv)
 obtain ⟨e2, hv⟩ := Prod.mk.inj hv
 obtain ⟨e3, e4⟩ := Prod.mk.inj hv
 subst e1; subst e2; subst e3; subst e4
 unfold openEnds
 rw [hs, Option.bind_some, topT_of h1]
 exact congrArg some h2
end
namespace L2
open PySem PySem.Spec PyProof.Rows
noncomputable abbrev Key := Sum Int Str
noncomputable def Zzj : Key -> Value -> Bool
 | .inl k, v => Value.isInt k v
 | .inr x, v => Value.isStrOf x v
noncomputable def keyH (w : World) : Key -> Int
 | .inl k => hashInt k
 | .inr x => hashStr w x
theorem Zbh : ∀ {k : Key} {v : Value}, Zzj k v = true -> (∃ i t, k = Sum.inl i ∧ v = Value.int i t) ∨ (∃ x t, k = Sum.inr x ∧ v = Value.str x t)
 | .inl i, v, h => by
  obtain ⟨t, e⟩ := Value.isInt_shape (k := i) (v := v) h
  exact .inl ⟨i, t, rfl, e⟩
 | .inr x, v, h => by
  obtain ⟨t, e⟩ := Value.isStrOf_shape (x := x) (v := v) h
  exact .inr ⟨x, t, rfl, e⟩
theorem Zy0 (a b : Int) : decide ((Sum.inl a : Key) = Sum.inl b) = (a == b) := by
 by_cases e : a = b
 ·subst e; simp
 ·have h : ¬ (Sum.inl a : Key) = Sum.inl b := fun q => e (Sum.inl.inj q)
  rw [decide_eq_false h]
  exact (beq_eq_false_iff_ne.mpr e).symm
theorem Zzs (a b : Str) : decide ((Sum.inr a : Key) = Sum.inr b) = decide (a = b) := by
 by_cases e : a = b
 ·subst e; simp
 ·have h : ¬ (Sum.inr a : Key) = Sum.inr b := fun q => e (Sum.inr.inj q)
  rw [decide_eq_false h, decide_eq_false e]
theorem Zyy (a : Int) (b : Str) : decide ((Sum.inl a : Key) = Sum.inr b) = false := decide_eq_false (fun q => nomatch q)
theorem Zyk (a : Str) (b : Int) : decide ((Sum.inr a : Key) = Sum.inl b) = false := decide_eq_false (fun q => nomatch q)
noncomputable def Zmy (prog : Program) (w : World) : PySem.KeyKind prog w Key where
 is := Zzj
 hash := keyH w
 inj := fun v a b ha hb => by
  rcases Zbh ha with ⟨i, t, rfl, rfl⟩ | ⟨x, t, rfl, rfl⟩
  ·rcases Zbh hb with ⟨j, u, rfl, e⟩ | ⟨y, u, rfl, e⟩
   ·injection e with e1 _; rw [e1]
   ·exact nomatch e
  ·rcases Zbh hb with ⟨j, u, rfl, e⟩ | ⟨y, u, rfl, e⟩
   ·exact nomatch e
   ·injection e with e1 _; rw [e1]
 byValue := fun k v h => by
  rcases Zbh h with ⟨i, t, rfl, rfl⟩ | ⟨x, t, rfl, rfl⟩ <;> rfl
 pyHash := fun hv h => by
  rcases Zbh hv with ⟨i, t, rfl, rfl⟩ | ⟨x, t, rfl, rfl⟩
  ·exact wpAny_pyHash_int h
  ·exact wpAny_pyHash_str h
 eqBool := fun hu hv h => by
  rcases Zbh hu with ⟨i, t, rfl, rfl⟩ | ⟨x, t, rfl, rfl⟩
  ·rcases Zbh hv with ⟨j, u, rfl, rfl⟩ | ⟨y, u, rfl, rfl⟩
   ·rw [Zy0] at h; exact wpAny_eqBool_int h
   ·rw [Zyy] at h; exact SeqAt.EqAt.int_str i t y u _ _ _ _ h
  ·rcases Zbh hv with ⟨j, u, rfl, rfl⟩ | ⟨y, u, rfl, rfl⟩
   ·rw [Zyk] at h; exact SeqAt.EqAt.str_int x t j u _ _ _ _ h
   ·rw [Zzs] at h; exact wpAny_eqBool_str h
 «strs» := fun k x t v h => by
  rcases Zbh h with ⟨i, u, rfl, e⟩ | ⟨y, u, rfl, e⟩
  ·exact nomatch e
  ·injection e with e1 _
   subst e1
   cases v <;> rfl
inductive V where
 | non | bl (b : Bool) | int (i : Int) | str (x : Str) | byt (b : Array UInt8) | flt (b : UInt64) | ref (a : Addr) | ty (n : String)
noncomputable def Zbv : V -> Value -> Prop
 | .non, u => u = Value.none
 | .bl b, u => u = Value.bool b
 | .int i, u => ∃ t, u = Value.int i t
 | .str x, u => ∃ t, u = Value.str x t
 | .byt b, u => ∃ t, u = Value.bytes b t
 | .flt b, u => ∃ t, u = Value.float b t
 | .ref a, u => u = Value.ref a
 | .ty n, u => u = Value.type n
noncomputable abbrev Zbf : List V -> List Value -> Prop := Paired Zbv
theorem Zbf.length {xs : List V} {us : List Value} (r : Zbf xs us) : xs.length = us.length := Paired.length r
theorem Zbf.get : ∀ {xs : List V} {us : List Value} {i : Nat} {x : V}, Zbf xs us -> xs[i]? = some x -> ∃ u, us[i]? = some u ∧ Zbv x u
 | _, _, _, _, .nil, e => by simp at e
 | _, _, 0, _, .cons r _, e => by simp at e; subst e; exact ⟨_, rfl, r⟩
 | _, _, i + 1, x, .cons _ t, e => by
  obtain ⟨u, h1, h2⟩ := Zbf.get (i := i) (x := x) t (by simpa using e)
  exact ⟨u, by simpa using h1, h2⟩
theorem Zbf.set {x : V} {u : Value} (r : Zbv x u) : ∀ {xs : List V} {us : List Value} (i : Nat), Zbf xs us -> Zbf (xs.set i x) (us.set i u)
 | _, _, _, .nil => .nil
 | _, _, 0, .cons _ t => .cons r t
 | _, _, i + 1, .cons q t => .cons q (Zbf.set r i t)
theorem Zbf.append : ∀ {xs ys : List V} {us ws : List Value}, Zbf xs us -> Zbf ys ws -> Zbf (xs ++ ys) (us ++ ws)
 | _, _, _, _, .nil, s => s
 | _, _, _, _, .cons r t, s => .cons r (Zbf.append t s)
theorem Zbf.take : ∀ {xs : List V} {us : List Value} (n : Nat), Zbf xs us -> Zbf (xs.take n) (us.take n)
 | _, _, 0, _ => .nil
 | _, _, _ + 1, .nil => .nil
 | _, _, n + 1, .cons r t => .cons r (Zbf.take n t)
theorem Zbf.drop : ∀ {xs : List V} {us : List Value} (n : Nat), Zbf xs us -> Zbf (xs.drop n) (us.drop n)
 | _, _, 0, r => r
 | _, _, _ + 1, .nil => .nil
 | _, _, n + 1, .cons _ t => Zbf.drop n t
noncomputable def Zsa : Option V -> Option Value -> Prop
 | some v, some u => Zbv v u
 | none, none => True
 | _, _ => False
noncomputable def KV {κ : Type} : List (κ × V) -> List (κ × Value) -> Prop := Paired fun (p : κ × V) (q : κ × Value) => p.1 = q.1 ∧ Zbv p.2 q.2
noncomputable def kV : Key -> V
 | .inl i => .int i
 | .inr x => .str x
inductive HO where
 | lst (xs : List V)
 | tup (xs : List V)
 | dK (kvs : List (Key × V)) | dT (kvs : List (List Key × V))
 | set (S : Int -> Bool) (n : Nat)
 | ins (C dx : Addr) (fs : List (Str × V))
 | own (x : Addr)
 | xd (fs : List (Str × V))
 | met (f x : Addr)
 | rng (lo hi : Int)
 | frz (o : Obj) (u : HO)
 | tbl (ps : Array Value)
 | ext (φ : Heap -> Prop)
noncomputable abbrev Hp := Addr -> Option HO
noncomputable def upd (H : Hp) (a : Addr) (o : HO) : Hp := fun b => if b = a then some o else H b
theorem Zaq {H : Hp} {a : Addr} {o : HO} : upd H a o a = some o := by unfold upd; rw [if_pos rfl]
theorem Zak {H : Hp} {a b : Addr} {o : HO} (h : b ≠ a) : upd H a o b = H b := by unfold upd; rw [if_neg h]
theorem Zkp {H : Hp} {a b : Addr} {o u : HO} (h : H a = some o) (h' : H b = some u) (d : o ≠ u) : a ≠ b := by
 intro e; subst e; rw [h] at h'; exact d (Option.some.inj h')
theorem Zam {H : Hp} {a b : Addr} {o : HO} (h : H a = some o) (h' : H b = none) : a ≠ b := by
 intro e; subst e; rw [h] at h'; cases h'
noncomputable def Zj6 (h : Heap) (a : Addr) (items : Array Value) : Prop := ∃ o, h.get? a = some o ∧ o.cls = .type "tuple" ∧ (∃ n, o.data = .seq items n) ∧ o.dict = none
theorem Zj6.new (h : Heap) (items : Array Value) : Zj6 (h.push { cls := .type "tuple", data := .seq items }) h.objs.size items := ⟨_, Heap.get?_push_size _ rfl, rfl, ⟨_, rfl⟩, rfl⟩
theorem Zj6.tup {h : Heap} {a : Addr} {items : Array Value} (x : Zj6 h a items) : IsTup h a items := let ⟨o, e, c, d, _⟩ := x; ⟨o, e, c, d⟩
section
variable (P : Program) (w : World)
noncomputable def Zcr (H : Hp) (h : Heap) (a : Addr) : HO -> Prop
 | .lst xs => xs.length ≤ sizeLine ∧ ∃ (its : List Value) (n : Nat), Zbf xs its ∧ h.get? a = some { cls := .type "list", data := .seq its.toArray n }
 | .tup xs => xs.length ≤ sizeLine ∧ ∃ its : List Value, Zbf xs its ∧ Zj6 h a its.toArray
 | .dK kvs => kvs.length ≤ sizeLine ∧ (a == sysModules) = false ∧ ∃ vs, KV kvs vs ∧ h.DictOf (Zmy P w) a vs
 | .dT kvs => kvs.length ≤ sizeLine ∧ (a == sysModules) = false ∧ ∃ xs : List (List Key × Addr × Value),
   Paired (fun (p : List Key × V) (q : List Key × Addr × Value) => p.1 = q.1 ∧ H q.2.1 = some (.tup (p.1.map kV)) ∧ Zbv p.2 q.2.2) kvs xs ∧
   ∃ o es ep, h.get? a = some o ∧ o.ExactDict ∧ o.data = .dict es ep ∧ es.toList = xs.map (entryOfKey (tupleKind (Zmy P w))) ∧ (xs.map (·.1)).Nodup
 | .set S n => h.SetOf (intKind P w) a S n
 | .ins C dx fs => H dx = some (.own a) ∧ fs.length ≤ 1000 ∧ dx ≠ a ∧ h.get? a = some (PySem.W.instObj C dx) ∧
   ∃ mA, h.Ns1 dx mA ∧ (∀ f, Zsa (fs.lookup f) (mA f)) ∧ PySem.Within mA (fs.map (·.1))
 | .own _ => ∃ o, h.get? a = some o
 | .xd fs => ∃ mA, h.Ns1 a mA ∧ ∀ f, Zsa (fs.lookup f) (mA f)
 | .rng lo hi => ∃ t u v, h.get? a = some { cls := .type "range", data := .fields #[.int lo t, .int hi u, .int 1 v] }
 | .frz o u => h.get? a = some o ∧ Zcr H h a u
 | .tbl ps => h.get? a = some { cls := .none, data := .fields ps }
 | .met f x => h.get? a = some (PySem.W.methodObj (.ref f) (.ref x))
 | .ext φ => φ h ∧ (∃ o, h.get? a = some o) ∧ ∀ h1 h2 : Heap, φ h1 -> (∀ o, h1.get? a = some o -> h2.get? a = some o) -> φ h2
noncomputable def HOk (H : Hp) (h : Heap) : Prop := ∀ a o, H a = some o -> Zcr P w H h a o
end
section
variable {P : Program} {w : World} {H H' : Hp} {h h' : Heap} {a : Addr} {o : HO}
theorem Zcr.lt (x : Zcr P w H h a o) : a < h.objs.size := by
 cases o with
 | lst xs => obtain ⟨_, _, _, _, e⟩ := x; exact Heap.lt_size e
 | tup xs => obtain ⟨_, _, _, p⟩ := x; exact p.tup.lt
 | dK kvs => obtain ⟨_, _, _, _, o, _, _, e, _⟩ := x; exact Heap.lt_size e
 | dT kvs => obtain ⟨_, _, _, _, o, _, _, e, _⟩ := x; exact Heap.lt_size e
 | set S n => obtain ⟨o, _, _, _, e, _⟩ := x; exact Heap.lt_size e
 | ins C dx fs => obtain ⟨_, _, _, e, _⟩ := x; exact Heap.lt_size e
 | own y => obtain ⟨_, e⟩ := x; exact Heap.lt_size e
 | xd fs => obtain ⟨_, ⟨_, _, _, e, _⟩, _⟩ := x; exact Heap.lt_size e
 | rng lo hi => obtain ⟨_, _, _, e⟩ := x; exact Heap.lt_size e
 | frz ob u => obtain ⟨e, _⟩ := x; exact Heap.lt_size e
 | tbl ps => exact Heap.lt_size (show h.get? a = some _ from x)
 | met f y => exact Heap.lt_size (show h.get? a = some _ from x)
 | ext φ => obtain ⟨_, ⟨_, e⟩, _⟩ := x; exact Heap.lt_size e
theorem Paired.mapP {α β : Type} {F G : α -> β -> Prop} : ∀ {l₁ : List α} {l₂ : List β}, Paired F l₁ l₂ -> (∀ a b, F a b -> G a b) -> Paired G l₁ l₂
 | _, _, .nil, _ => .nil
 | _, _, .cons r t, f => .cons (f _ _ r) (Paired.mapP t f)
theorem Zcr.stay (x : Zcr P w H h a o) (k : ∀ b u, (b = a ∨ H b = some (.own a)) -> h.get? b = some u -> h'.get? b = some u)
  (ho : ∀ b, H b = some (.own a) -> H' b = some (.own a)) (ht : ∀ b xs, H b = some (.tup xs) -> H' b = some (.tup xs)) : Zcr P w H' h' a o := by
 induction o with
 | lst xs => obtain ⟨z, its, n, r, e⟩ := x; exact ⟨z, its, n, r, k _ _ (.inl rfl) e⟩
 | tup xs => obtain ⟨z, its, r, ob, e, c⟩ := x; exact ⟨z, its, r, ob, k _ _ (.inl rfl) e, c⟩
 | dK kvs => obtain ⟨z, y, vs, r, ob, es, ep, e, c⟩ := x; exact ⟨z, y, vs, r, ob, es, ep, k _ _ (.inl rfl) e, c⟩
 | dT kvs =>
  obtain ⟨z, y, xs, r, ob, es, ep, e, c⟩ := x
  exact ⟨z, y, xs, Paired.mapP r fun p q z => ⟨z.1, ht _ _ z.2.1, z.2.2⟩, ob, es, ep, k _ _ (.inl rfl) e, c⟩
 | set S n => obtain ⟨ob, es, ep, t, e, c⟩ := x; exact ⟨ob, es, ep, t, k _ _ (.inl rfl) e, c⟩
 | ins C dx fs =>
  obtain ⟨d, z, ne, e, mA, ⟨od, es, ep, e2, c⟩, r⟩ := x
  exact ⟨ho _ d, z, ne, k _ _ (.inl rfl) e, mA, ⟨od, es, ep, k _ _ (.inr d) e2, c⟩, r⟩
 | own y => obtain ⟨ob, e⟩ := x; exact ⟨ob, k _ _ (.inl rfl) e⟩
 | xd fs => obtain ⟨mA, ⟨od, es, ep, e, c⟩, r⟩ := x; exact ⟨mA, ⟨od, es, ep, k _ _ (.inl rfl) e, c⟩, r⟩
 | rng lo hi => obtain ⟨t, u, v, e⟩ := x; exact ⟨t, u, v, k _ _ (.inl rfl) e⟩
 | frz ob u ih => obtain ⟨e, q⟩ := x; exact ⟨k _ _ (.inl rfl) e, ih q⟩
 | tbl ps =>
  have e : h.get? a = some { cls := .none, data := .fields ps } := x
  show h'.get? a = some { cls := .none, data := .fields ps }
  exact k a _ (.inl rfl) e
 | met f y =>
  have e : h.get? a = some (PySem.W.methodObj (.ref f) (.ref y)) := x
  show h'.get? a = some (PySem.W.methodObj (.ref f) (.ref y))
  exact k a _ (.inl rfl) e
 | ext φ => obtain ⟨p, ⟨o, e⟩, st⟩ := x; exact ⟨st _ _ p fun o q => k _ _ (.inl rfl) q, ⟨o, k _ _ (.inl rfl) e⟩, st⟩
theorem HOk.lt (x : HOk P w H h) (e : H a = some o) : a < h.objs.size := (x a o e).lt
theorem HOk.fresh (x : HOk P w H h) (e : h.objs.size ≤ a) : H a = none := by
 cases q : H a with
 | none => rfl
 | some u => exact absurd (Nat.lt_of_lt_of_le (x.lt q) e) (Nat.lt_irrefl _)
theorem HOk.kept (x : HOk P w H h) (k : ∀ b u, h.get? b = some u -> h'.get? b = some u) : HOk P w H h' := fun a o e =>
 (x a o e).stay (fun b u _ q => k b u q) (fun _ q => q) fun _ _ q => q
theorem HOk.laid (x : HOk P w H h) (k : ∀ b u, h.get? b = some u -> h'.get? b = some u) (hp : h.objs.size ≤ a) (new : Zcr P w (upd H a o) h' a o) : HOk P w (upd H a o) h' := fun b u e => by
 have hn := x.fresh hp
 by_cases hb : b = a
 ·subst hb; rw [Zaq] at e; cases e; exact new
 ·rw [Zak hb] at e
  exact (x b u e).stay (fun c v _ q => k c v q) (fun c q => by rw [Zak (Zam q hn)]; exact q) fun c xs q => by rw [Zak (Zam q hn)]; exact q
end
noncomputable def Rd (H : Hp) (a : Addr) (u : HO) : Prop := H a = some u ∨ ∃ o, H a = some (.frz o u)
theorem Rd.ok {P : Program} {w : World} {H : Hp} {h : Heap} {a : Addr} {u : HO} (r : Rd H a u) (x : HOk P w H h) : Zcr P w H h a u := by
 rcases r with r | ⟨o, r⟩
 ·exact x a u r
 ·obtain ⟨_, q⟩ := x a _ r
  exact q
noncomputable def Mut : Option HO -> Prop
 | some (.lst _) => True
 | some (.dK _) => True
 | some (.dT _) => True
 | some (.set _ _) => True
 | some (.ins _ _ _) => True
 | some (.ext _) => True
 | _ => False
section
variable {P : Program} {w : World} {H : Hp} {h h' : Heap} {x e : Addr} {o' : HO}
theorem HOk.write (ok : HOk P w H h) (mu : Mut (H x)) (he : e = x ∨ H e = some (.own x)) (k : ∀ b u, b ≠ e -> h.get? b = some u -> h'.get? b = some u) (heo : ∃ u, h'.get? e = some u)
  (new : Zcr P w (upd H x o') h' x o') : HOk P w (upd H x o') h' := fun b u q => by
 have nown : ∀ c y, H c = some (.own y) -> c ≠ x := fun c y r z => by subst z; rw [r] at mu; exact mu
 have ntup : ∀ c xs, H c = some (.tup xs) -> c ≠ x := fun c xs r z => by subst z; rw [r] at mu; exact mu
 by_cases hb : b = x
 ·subst hb; rw [Zaq] at q; cases q; exact new
 ·rw [Zak hb] at q
  by_cases hbe : b = e
  ·have q' : H b = some (.own x) := by
    rcases he with z | z
    ·exact absurd (hbe.trans z) hb
    ·rw [hbe]; exact z
   rw [q] at q'; cases q'
   obtain ⟨v, hv⟩ := heo
   exact ⟨v, by rw [hbe]; exact hv⟩
  ·refine (ok b u q).stay (fun c v hc r => k c v ?_ r) (fun c r => by rw [Zak (nown c b r)]; exact r) fun c xs r => by rw [Zak (ntup c xs r)]; exact r
   rcases hc with rfl | hc
   ·exact hbe
   ·rintro rfl
    rcases he with z | z
    ·exact nown c b hc z
    ·rw [hc] at z; cases z; exact hb rfl
end
structure Un (fs ex : List Addr) (H H' : Hp) (h h' : Heap) : Prop where
 keep : ∀ b o, h.get? b = some o -> H b = none -> b ∉ fs -> b ∉ ex -> h'.get? b = some o
 slot : ∀ b o, h.get? b = some o -> H b = none -> b ∈ fs -> b ∉ ex -> ∃ sl, h'.get? b = some { o with slots := sl }
 free : ∀ b o, h.get? b = some o -> H b = none -> b ∉ ex -> H' b = none
 there : ∀ b o, h.get? b = some o -> b ∉ ex -> ∃ o', h'.get? b = some o'
 tups : ∀ b xs, H b = some (.tup xs) -> H' b = some (.tup xs)
 frzs : ∀ b o u, H b = some (.frz o u) -> H' b = some (.frz o u)
 tbls : ∀ b ps, H b = some (.tbl ps) -> ∃ more, H' b = some (.tbl (ps ++ more))
section
variable {fs fs' ex ex' : List Addr} {H H1 H2 : Hp} {h h1 h2 h' : Heap} {a x e : Addr} {o : HO}
theorem Un.any (u : Un fs ex H H1 h h1) {b : Addr} {ob : Obj} (q : h.get? b = some ob) (n : H b = none) (hx : b ∉ ex) : ∃ sl, h1.get? b = some { ob with slots := sl } := by
 by_cases hb : b ∈ fs
 ·exact u.slot b ob q n hb hx
 ·exact ⟨ob.slots, u.keep b ob q n hb hx⟩
theorem Un.trans (a : Un fs ex H H1 h h1) (b : Un fs ex H1 H2 h1 h2) : Un fs ex H H2 h h2 where
 keep := fun c ob q n hc hx => b.keep c ob (a.keep c ob q n hc hx) (a.free c ob q n hx) hc hx
 slot := fun c ob q n hc hx => by
  obtain ⟨sl, e1⟩ := a.slot c ob q n hc hx
  obtain ⟨sl', e2⟩ := b.slot c _ e1 (a.free c ob q n hx) hc hx
  exact ⟨sl', e2⟩
 free := fun c ob q n hx => by
  obtain ⟨o', e1⟩ := a.there c ob q hx
  exact b.free c o' e1 (a.free c ob q n hx) hx
 there := fun c ob q hx => by
  obtain ⟨o', e1⟩ := a.there c ob q hx
  exact b.there c o' e1 hx
 tups := fun c xs q => b.tups c xs (a.tups c xs q)
 frzs := fun c ob xs q => b.frzs c ob xs (a.frzs c ob xs q)
 tbls := fun c ps q => by
  obtain ⟨m1, e1⟩ := a.tbls c ps q
  obtain ⟨m2, e2⟩ := b.tbls c _ e1
  exact ⟨m1 ++ m2, by rw [e2, Array.append_assoc]⟩
theorem Un.kept (k : ∀ b u, h.get? b = some u -> h'.get? b = some u) : Un fs ex H H h h' :=
 ⟨fun b ob q _ _ _ => k b ob q, fun b ob q _ _ _ => ⟨ob.slots, k b ob q⟩, fun _ _ _ n _ => n, fun b ob q _ => ⟨ob, k b ob q⟩, fun _ _ q => q, fun _ _ _ q => q, fun _ ps q => ⟨#[], by rw [q]; simp⟩⟩
theorem Un.refl : Un fs ex H H h h := Un.kept fun _ _ q => q
theorem Un.laid (k : ∀ b u, h.get? b = some u -> h'.get? b = some u) (hp : h.objs.size ≤ a) (hn : H a = none) : Un fs ex H (upd H a o) h h' where
 keep := fun b u q _ _ _ => k b u q
 slot := fun b u q _ _ _ => ⟨u.slots, k b u q⟩
 free := fun b u q n _ => by rw [Zak (Nat.ne_of_lt (Nat.lt_of_lt_of_le (Heap.lt_size q) hp))]; exact n
 there := fun b u q _ => ⟨u, k b u q⟩
 tups := fun b xs q => by rw [Zak (Zam q hn)]; exact q
 frzs := fun b u xs q => by rw [Zak (Zam q hn)]; exact q
 tbls := fun b ps q => ⟨#[], by rw [Zak (Zam q hn), q]; simp⟩
theorem Un.write (mu : Mut (H x)) (he : e = x ∨ H e = some (.own x)) (k : ∀ b u, b ≠ e -> h.get? b = some u -> h'.get? b = some u) (heo : ∃ u, h'.get? e = some u) : Un fs ex H (upd H x o) h h' := by
 have hx : ∀ b, H b = none -> b ≠ x := fun b n z => by subst z; rw [n] at mu; exact mu
 have hb : ∀ b, H b = none -> b ≠ e := fun b n z => by
  subst z
  rcases he with r | r
  ·exact hx b n r
  ·rw [n] at r; cases r
 have hm : ∀ b u, H b = some u -> ¬ Mut (some u) -> b ≠ x := fun b u q nm z => by subst z; rw [q] at mu; exact nm mu
 refine ⟨fun b u q n _ _ => k b u (hb b n) q, fun b u q n _ _ => ⟨u.slots, k b u (hb b n) q⟩, fun b u q n _ => by rw [Zak (hx b n)]; exact n, fun b u q _ => ?_,
  fun b xs q => by rw [Zak (hm b _ q fun z => z)]; exact q, fun b u xs q => by rw [Zak (hm b _ q fun z => z)]; exact q, fun b ps q => ⟨#[], by rw [Zak (hm b _ q fun z => z), q]; simp⟩⟩
 by_cases hbe : b = e
 ·subst hbe; exact heo
 ·exact ⟨u, k b u hbe q⟩
theorem Un.mono (u : Un fs ex H H1 h h1) (hs : ∀ b ∈ fs, b ∈ fs') (hx : ∀ b ∈ ex, b ∈ ex') : Un fs' ex' H H1 h h1 :=
 ⟨fun b ob q n hb he => u.keep b ob q n (fun z => hb (hs b z)) fun z => he (hx b z), fun _ _ q n _ he => u.any q n fun z => he (hx _ z), fun b ob q n he => u.free b ob q n fun z => he (hx b z), fun b ob q he => u.there b ob q fun z => he (hx b z), u.tups, u.frzs, u.tbls⟩
end
noncomputable def trk (h : Heap) (H : Hp) : List Addr := (List.range h.objs.size).filter fun a => (H a).isSome
noncomputable def Zt5 (h : Heap) (H : Hp) : Heap := PySem.W.hideAll h (trk h H)
theorem Zrh (h : Heap) (H : Hp) : (Zt5 h H).objs.size = h.objs.size := PySem.W.hideAll_size _ _
theorem Zt6 {h : Heap} {H : Hp} {b : Addr} {o : Obj} (e : h.get? b = some o) (n : H b = none) : (Zt5 h H).get? b = some o :=
 PySem.W.hideAll_get _ e fun hm => by
  have q : (H b).isSome = true := (List.mem_filter.mp hm).2
  rw [n] at q; simp at q
theorem Zxm {h : Heap} {H : Hp} {b : Addr} {o : Obj} (e : (Zt5 h H).get? b = some o) : h.get? b = some o ∧ H b = none := by
 have e' : h.get? b = some o := PySem.W.of_hideAll (trk h H) e
 refine ⟨e', ?_⟩
 cases q : H b with
 | none => rfl
 | some x =>
  have hm : b ∈ trk h H := List.mem_filter.mpr ⟨List.mem_range.mpr (Heap.lt_size e'), by simp [q]⟩
  have z : (Zt5 h H).get? b = none := PySem.W.hideAll_none (trk h H) hm
  rw [z] at e; cases e
structure Mod (K : PySem.W.Frag) (mg : Str -> Option Value) (base : Heap) : Prop where
 kin : K.In base
 glob : base.Ns mainGlobals mg
 blt : ∃ mb, base.Ns builtinsNs mb ∧ ∀ x : Str, x ≠ "__name__" → mb x = bootBuiltins x
 nolimit : base.NoLimit
structure Cx where
 prog : Program
 w : World
 K : PySem.W.Frag
 mg : Str -> Option Value
 base : Heap
 A : Around
 N : List Str
 s₀ : Shared
 H₀ : Hp
 env : Env
 outer : List Env
 stack : List Env
 ex : List Addr
 fn : Str -> Bool
 calm : Bool
 pn : List (Addr × Obj)
 xe : Value -> Shared -> Prop
noncomputable def frs (l : List Env) : List Addr := l.filterMap (·.frame)
noncomputable abbrev Cx.fs (X : Cx) : List Addr := frs X.outer
noncomputable def Vis (sc : Scope) (x : Str) : Prop := sc.names.lookup x = some .local ∨ sc.names.lookup x = some .cell ∨ sc.names.lookup x = some .free
noncomputable def Loc (sc : Scope) (x : Str) : Prop := sc.names.lookup x = some .local ∨ sc.names.lookup x = some .cell
noncomputable def Look (env : Env) (h : Heap) (m : Str -> Option Value) (x : Str) (u : Value) : Prop :=
 (env.kindOf x = some .local ∧ m x = some u) ∨ ((env.kindOf x = some .cell ∨ env.kindOf x = some .free) ∧ ∃ c, env.cells.lookup x = some c ∧ h.IsCell c (some u))
structure Cx.Ok (X : Cx) : Prop where
 mod : Mod X.K X.mg X.base
 kind : X.env.scope.kind = .function
 glob : X.env.globals = mainGlobals
 blt : X.env.builtins = builtinsNs
 above : X.s₀.heap.objs.size ≤ X.env.locals
 inj : ∀ x y c, X.env.cells.lookup x = some c -> X.env.cells.lookup y = some c -> x = y
 has : ∀ x, (X.env.kindOf x = some .cell ∨ X.env.kindOf x = some .free) -> ∃ c, X.env.cells.lookup x = some c
 cab : ∀ x c, X.fn x = true -> X.env.cells.lookup x = some c -> X.s₀.heap.objs.size ≤ c
 hd : X.calm = true -> X.A.handled = none
 frames : X.A.frames = some X.stack
 stk : X.stack = X.outer ∨ (X.stack = X.env :: X.outer ∧ X.env.frame = some X.env.locals)
 exf : ∀ b ∈ X.ex, b ≠ X.env.locals ∧ ∀ x c, X.env.cells.lookup x = some c -> c ≠ b
 bs : ∀ b o, X.base.get? b = some o -> X.s₀.heap.get? b = some o ∧ X.H₀ b = none
 bsz : X.base.objs.size ≤ X.s₀.heap.objs.size
 noex : ∀ b o, X.base.get? b = some o -> b ∉ X.ex
 exfs : ∀ b ∈ X.ex, b ∉ X.fs
 funs : X.s₀.heap.FunFrames X.base X.outer
 frf : ∀ b ∈ X.fs, X.H₀ b = none
structure Inv (X : Cx) (pins : List (Addr × Obj)) (σ : List (Option V)) (H : Hp) (s : Shared) : Prop where
 ok : X.Ok
 os : s.os = X.s₀.os
 bare : AllBare s.gens
 base : Un X.fs X.ex X.H₀ H X.s₀.heap s.heap
 loc : ∃ m, s.heap.Ns X.env.locals m ∧ ∀ (i : Nat) (x : Str) (v : V), X.N[i]? = some x -> σ[i]? = some (some v) -> Vis X.env.scope x -> ∃ u, Zbv v u ∧ Look X.env s.heap m x u
 cell : ∀ x c, X.env.cells.lookup x = some c -> ∃ v, s.heap.IsCell c v
 free : H X.env.locals = none
 freeC : ∀ x c, X.env.cells.lookup x = some c -> H c = none
 pin : ∀ p ∈ X.pn ++ pins, s.heap.get? p.1 = some p.2 ∧ H p.1 = none ∧ p.1 ≠ X.env.locals ∧ p.1 ∉ X.fs ∧ ∀ v, p.2.data ≠ .cell v
 hok : HOk X.prog X.w H s.heap
 len : σ.length = X.N.length
section
variable {X : Cx} {pins : List (Addr × Obj)} {σ : List (Option V)} {H H' : Hp} {s : Shared} {h' : Heap}
theorem Cx.Ok.nofr (ok : X.Ok) {b : Addr} {o : Obj} (e : X.base.get? b = some o) : b ∉ X.fs := fun hb => by
 have := (ok.funs.mem hb).1
 rw [e] at this; cases this
theorem Inv.bs (I : Inv X pins σ H s) : ∀ b o, X.base.get? b = some o -> s.heap.get? b = some o ∧ H b = none := fun b o e =>
 ⟨I.base.keep b o (I.ok.bs b o e).1 (I.ok.bs b o e).2 (I.ok.nofr e) (I.ok.noex b o e), I.base.free b o (I.ok.bs b o e).1 (I.ok.bs b o e).2 (I.ok.noex b o e)⟩
theorem Inv.bk (I : Inv X pins σ H s) : ∀ b o, X.base.get? b = some o -> s.heap.get? b = some o := fun b o e => (I.bs b o e).1
theorem Inv.mod (I : Inv X pins σ H s) : Mod X.K X.mg X.base := I.ok.mod
theorem Inv.kIn (I : Inv X pins σ H s) : X.K.In s.heap := I.ok.mod.kin.keeps I.bk
theorem Inv.lt (I : Inv X pins σ H s) : X.env.locals < s.heap.objs.size := let ⟨_, hn, _⟩ := I.loc; hn.lt
theorem Inv.sz (I : Inv X pins σ H s) : X.s₀.heap.objs.size ≤ s.heap.objs.size := Nat.le_trans I.ok.above (Nat.le_of_lt I.lt)
theorem Inv.nofs (I : Inv X pins σ H s) {a : Addr} (h : s.heap.objs.size ≤ a) : a ∉ X.fs := fun hb => by
 obtain ⟨_, o, ho, _⟩ := I.ok.funs.mem hb
 exact absurd (Nat.lt_of_lt_of_le (Heap.lt_size ho) (Nat.le_trans I.sz h)) (Nat.lt_irrefl _)
theorem Inv.cne (I : Inv X pins σ H s) : ∀ x c, X.env.cells.lookup x = some c -> c ≠ X.env.locals := fun x c e z => by
 obtain ⟨v, o, ho, hd⟩ := I.cell x c e
 obtain ⟨m, ⟨o', es, ep, ho', hd', _⟩, _⟩ := I.loc
 rw [z, ho'] at ho; cases ho; rw [hd'] at hd; cases hd
theorem Inv.funs (I : Inv X pins σ H s) : s.heap.FunFrames X.base X.outer := by
 have all : ∀ (l : List Env), (∀ b ∈ frs l, b ∈ X.fs) -> X.s₀.heap.FunFrames X.base l -> s.heap.FunFrames X.base l := by
  intro l
  induction l with
  | nil => intro _ _; trivial
  | cons env r ih =>
   intro hs hl
   obtain ⟨hk, ⟨L, o, hf, hn, ho, hd⟩, hr⟩ := hl
   have hL : L ∈ X.fs := hs L (by unfold frs; rw [List.filterMap_cons, hf]; exact List.mem_cons_self)
   obtain ⟨sl, e⟩ := I.base.slot L o ho (I.ok.frf L hL) hL fun z => I.ok.exfs L z hL
   exact ⟨hk, ⟨L, _, hf, hn, e, hd⟩, ih (fun b hb => hs b (by unfold frs; rw [List.filterMap_cons, hf]; exact List.mem_cons_of_mem _ hb)) hr⟩
 exact all X.outer (fun _ hb => hb) I.ok.funs
theorem Inv.stack (I : Inv X pins σ H s) : s.heap.FunFrames X.base X.stack := by
 rcases I.ok.stk with e | ⟨e, hf⟩
 ·rw [e]; exact I.funs
 ·rw [e]
  obtain ⟨m, hn, _⟩ := I.loc
  refine .cons (by rw [I.ok.kind]; decide) hf hn ?_ I.funs
  exact Heap.get?_none_of_le (Nat.le_trans I.ok.bsz I.ok.above)
theorem Inv.stkSub (I : Inv X pins σ H s) : ∀ b ∈ frs X.stack, b ∈ X.env.locals :: X.fs := fun b hb => by
 rcases I.ok.stk with e | ⟨e, hf⟩
 ·rw [e] at hb; exact List.mem_cons_of_mem _ hb
 ·rw [e] at hb
  unfold frs at hb
  rw [List.filterMap_cons, hf] at hb
  exact hb
theorem Inv.stkFree (I : Inv X pins σ H s) : ∀ b ∈ frs X.stack, H b = none := fun b hb => by
 rcases List.mem_cons.mp (I.stkSub b hb) with e | hb
 ·rw [e]; exact I.free
 ·obtain ⟨_, o, ho, _⟩ := I.ok.funs.mem hb
  exact I.base.free b o ho (I.ok.frf b hb) fun z => I.ok.exfs b z hb
theorem Inv.step {g' : Array GenState} {t' : Nat} {d' : Drawn} {ch : List Addr} (I : Inv X pins σ H s)
  (hch : ∀ b ∈ ch, (b ∈ X.ex ∨ X.s₀.heap.objs.size ≤ b) ∧ b ≠ X.env.locals ∧ (∀ x c, X.env.cells.lookup x = some c -> c ≠ b) ∧ ∀ p ∈ X.pn ++ pins, p.1 ≠ b)
  (keep : ∀ b o, b ≠ X.env.locals -> b ∉ X.fs -> b ∉ ch -> s.heap.get? b = some o -> H b = none -> h'.get? b = some o)
  (slot : ∀ b o, b ≠ X.env.locals -> b ∈ X.fs -> b ∉ ch -> s.heap.get? b = some o -> H b = none -> ∃ sl, h'.get? b = some { o with slots := sl }) (free : ∀ b o, b ∉ ch -> s.heap.get? b = some o -> H b = none -> H' b = none)
  (there : ∀ b o, b ∉ ch -> s.heap.get? b = some o -> ∃ o', h'.get? b = some o')
  (tups : ∀ b xs, H b = some (.tup xs) -> H' b = some (.tup xs)) (frzs : ∀ b o u, H b = some (.frz o u) -> H' b = some (.frz o u)) (tbls : ∀ b ps, H b = some (.tbl ps) -> ∃ more, H' b = some (.tbl (ps ++ more)))
  (ns : ∀ m, s.heap.Ns X.env.locals m -> h'.Ns X.env.locals m) (hok : HOk X.prog X.w H' h') (hg : AllBare g') :
  Inv X pins σ H' { s with heap := h', gens := g', drawn := d', toks := t' } := by
 have neL : ∀ b o, X.s₀.heap.get? b = some o -> b ≠ X.env.locals := fun b o e => Nat.ne_of_lt (Nat.lt_of_lt_of_le (Heap.lt_size e) I.ok.above)
 have neC : ∀ b o, X.s₀.heap.get? b = some o -> b ∉ X.ex -> b ∉ ch := fun b o e hx hb => by
  rcases (hch b hb).1 with z | z
  ·exact hx z
  ·exact absurd (Nat.lt_of_lt_of_le (Heap.lt_size e) z) (Nat.lt_irrefl _)
 have cellK : ∀ x c, X.env.cells.lookup x = some c -> ∀ v, s.heap.IsCell c v -> h'.IsCell c v := fun x c e v ⟨o, ho, hd⟩ => by
  have nch : c ∉ ch := fun z => (hch c z).2.2.1 x c e rfl
  by_cases hc : c ∈ X.fs
  ·obtain ⟨sl, q⟩ := slot c o (I.cne x c e) hc nch ho (I.freeC x c e)
   exact ⟨_, q, hd⟩
  ·exact ⟨o, keep c o (I.cne x c e) hc nch ho (I.freeC x c e), hd⟩
 refine ⟨I.ok, I.os, hg, ⟨fun b o e n hb hx => ?_, fun b o e n hb hx => ?_, fun b o e n hx => ?_, fun b o e hx => ?_, fun b xs e => tups b xs (I.base.tups b xs e), fun b o xs e => frzs b o xs (I.base.frzs b o xs e), fun b ps e => ?_⟩, ?_, fun x c e => ?_, ?_, fun x c e => ?_, fun p hp => ?_, hok, I.len⟩
 ·exact keep b o (neL b o e) hb (neC b o e hx) (I.base.keep b o e n hb hx) (I.base.free b o e n hx)
 ·obtain ⟨sl, e1⟩ := I.base.slot b o e n hb hx
  obtain ⟨sl', e2⟩ := slot b _ (neL b o e) hb (neC b o e hx) e1 (I.base.free b o e n hx)
  exact ⟨sl', e2⟩
 ·obtain ⟨o', e1⟩ := I.base.there b o e hx
  exact free b o' (neC b o e hx) e1 (I.base.free b o e n hx)
 ·obtain ⟨o', e1⟩ := I.base.there b o e hx
  exact there b o' (neC b o e hx) e1
 ·obtain ⟨m1, e1⟩ := I.base.tbls b ps e
  obtain ⟨m2, e2⟩ := tbls b _ e1
  exact ⟨m1 ++ m2, by rw [e2, Array.append_assoc]⟩
 ·obtain ⟨m, hn, hl⟩ := I.loc
  refine ⟨m, ns m hn, fun i x v e1 e2 e3 => ?_⟩
  obtain ⟨u, r, l⟩ := hl i x v e1 e2 e3
  refine ⟨u, r, ?_⟩
  rcases l with l | ⟨k, c, e, z⟩
  ·exact .inl l
  ·exact .inr ⟨k, c, e, cellK x c e _ z⟩
 ·obtain ⟨v, z⟩ := I.cell x c e
  exact ⟨v, cellK x c e v z⟩
 ·obtain ⟨m, ⟨o, _, _, ho, _⟩, _⟩ := I.loc
  exact free _ o (fun z => (hch _ z).2.1 rfl) ho I.free
 ·obtain ⟨v, o, ho, hd⟩ := I.cell x c e
  exact free c o (fun z => (hch c z).2.2.1 x c e rfl) ho (I.freeC x c e)
 ·obtain ⟨e, n, ne, nf, d⟩ := I.pin p hp
  have nch : p.1 ∉ ch := fun z => (hch p.1 z).2.2.2 p hp rfl
  exact ⟨keep p.1 p.2 ne nf nch e n, free p.1 p.2 nch e n, ne, nf, d⟩
theorem Inv.un {t' : Nat} (I : Inv X pins σ H s) (u : Un X.fs [] H H' s.heap h') (hok : HOk X.prog X.w H' h') : Inv X pins σ H' { s with heap := h', toks := t' } := by
 obtain ⟨m, ⟨o, es, ep, ho, r⟩, _⟩ := id I.loc
 obtain ⟨sl, hL⟩ := u.any ho I.free (by simp)
 exact I.step (g' := s.gens) (d' := s.drawn) (ch := []) (fun _ z => nomatch z) (fun b o _ hb _ e n => u.keep b o e n hb (by simp)) (fun b o _ hb _ e n => u.slot b o e n hb (by simp)) (fun b o _ e n => u.free b o e n (by simp)) (fun b o _ e => u.there b o e (by simp)) u.tups u.frzs u.tbls (fun m' hm => by
  obtain ⟨o', es', ep', ho', r'⟩ := hm
  rw [ho] at ho'; cases ho'
  exact ⟨_, es', ep', hL, r'⟩) hok I.bare
theorem Inv.call {g' : Array GenState} {t' : Nat} {d' : Drawn} {ch : List Addr} (I : Inv X pins σ H s) (u : Un (frs X.stack) ch H H' s.heap h') (hok : HOk X.prog X.w H' h') (hg : AllBare g')
  (hch : ∀ b ∈ ch, (b ∈ X.ex ∨ X.s₀.heap.objs.size ≤ b) ∧ b ≠ X.env.locals ∧ (∀ x c, X.env.cells.lookup x = some c -> c ≠ b) ∧ ∀ p ∈ X.pn ++ pins, p.1 ≠ b) :
  Inv X pins σ H' { s with heap := h', gens := g', drawn := d', toks := t' } := by
 obtain ⟨m, ⟨o, es, ep, ho, r⟩, _⟩ := id I.loc
 obtain ⟨sl, hL⟩ := u.any ho I.free fun z => (hch _ z).2.1 rfl
 exact I.step (ch := ch) hch (fun b o hL hb hc e n => u.keep b o e n (fun z => (List.mem_cons.mp (I.stkSub b z)).elim hL hb) hc) (fun b o _ _ hc e n => u.any e n hc) (fun b o hc e n => u.free b o e n hc) (fun b o hc e => u.there b o e hc) u.tups u.frzs u.tbls (fun m' hm => by
  obtain ⟨o', es', ep', ho', r'⟩ := hm
  rw [ho] at ho'; cases ho'
  exact ⟨_, es', ep', hL, r'⟩) hok hg
theorem Inv.turned {t' : Nat} {it : Addr} (I : Inv X pins σ H s) (k : ∀ b o, b ≠ it -> s.heap.get? b = some o -> h'.get? b = some o) (hn : H it = none) (hL : it ≠ X.env.locals)
  (h1 : it ∈ X.ex ∨ X.s₀.heap.objs.size ≤ it) (h2 : ∀ x c, X.env.cells.lookup x = some c -> c ≠ it) (h3 : ∀ p ∈ X.pn ++ pins, p.1 ≠ it) : Inv X pins σ H { s with heap := h', toks := t' } := by
 have nit : ∀ b u, H b = some u -> b ≠ it := fun b u e z => by rw [z, hn] at e; cases e
 refine I.step (g' := s.gens) (d' := s.drawn) (ch := [it]) (fun b hb => ?_) (fun b o _ _ hc e _ => k b o (fun z => hc (by simp [z])) e) (fun b o _ _ hc e _ => ⟨o.slots, k b o (fun z => hc (by simp [z])) e⟩) (fun _ _ _ _ n => n)
  (fun b o hc e => ⟨o, k b o (fun z => hc (by simp [z])) e⟩) (fun _ _ e => e) (fun _ _ _ e => e) (fun b ps e => ⟨#[], by rw [e]; simp⟩) (fun m hm => ?_) (fun b u e => ?_) I.bare
 ·have e : b = it := by simpa using hb
  subst e
  exact ⟨h1, hL, h2, h3⟩
 ·obtain ⟨o, es, ep, ho, r⟩ := hm
  exact ⟨o, es, ep, k _ o (Ne.symm hL) ho, r⟩
 ·refine (I.hok b u e).stay (fun c v hc q => k c v ?_ q) (fun _ q => q) fun _ _ q => q
  rcases hc with z | z
  ·rw [z]; exact nit b u e
  ·exact nit c _ z
theorem Inv.tok (I : Inv X pins σ H s) (t : Nat) : Inv X pins σ H { s with toks := t } := I.un (h' := s.heap) (t' := t) Un.refl I.hok
theorem Inv.kept {t' : Nat} (I : Inv X pins σ H s) (k : ∀ b u, s.heap.get? b = some u -> h'.get? b = some u) : Inv X pins σ H { s with heap := h', toks := t' } := I.un (Un.kept k) (I.hok.kept k)
theorem Inv.laid {a : Addr} {o : HO} {t' : Nat} (I : Inv X pins σ H s) (k : ∀ b u, s.heap.get? b = some u -> h'.get? b = some u) (hp : s.heap.objs.size ≤ a) (new : Zcr X.prog X.w (upd H a o) h' a o) :
  Inv X pins σ (upd H a o) { s with heap := h', toks := t' } := I.un (Un.laid k hp (I.hok.fresh hp)) (I.hok.laid k hp new)
theorem Inv.write {x e : Addr} {o : HO} {t' : Nat} (I : Inv X pins σ H s) (mu : Mut (H x)) (he : e = x ∨ H e = some (.own x)) (k : ∀ b u, b ≠ e -> s.heap.get? b = some u -> h'.get? b = some u) (heo : ∃ u, h'.get? e = some u)
  (new : Zcr X.prog X.w (upd H x o) h' x o) : Inv X pins σ (upd H x o) { s with heap := h', toks := t' } := I.un (Un.write mu he k heo) (I.hok.write mu he k heo new)
theorem Inv.pins_of {pins' : List (Addr × Obj)} (I : Inv X pins σ H s) (h : ∀ p ∈ pins', s.heap.get? p.1 = some p.2 ∧ H p.1 = none ∧ p.1 ≠ X.env.locals ∧ p.1 ∉ X.fs ∧ ∀ v, p.2.data ≠ .cell v) : Inv X pins' σ H s :=
 ⟨I.ok, I.os, I.bare, I.base, I.loc, I.cell, I.free, I.freeC, fun p hp => (List.mem_append.mp hp).elim (fun z => I.pin p (List.mem_append_left _ z)) (h p), I.hok, I.len⟩
theorem Zjx {N : List Str} (hN : N.Nodup) {i j : Nat} {x : Str} (a : N[i]? = some x) (b : N[j]? = some x) : i = j := by
 obtain ⟨h1, e1⟩ := List.getElem?_eq_some_iff.mp a
 obtain ⟨h2, e2⟩ := List.getElem?_eq_some_iff.mp b
 exact (List.getElem_inj hN).mp (e1.trans e2.symm)
theorem Zkn {M : Model} {A : Around} {E : Value -> Shared -> Prop} {i : Nat} {x : Str} {v : V} {u : Value} {Q : Unit -> Shared -> Prop} (I : Inv X pins σ H s) (hN : X.N.Nodup) (hi : X.N[i]? = some x) (hx : Loc X.env.scope x) (r : Zbv v u)
  (h : ∀ s', Inv X pins (σ.set i (some v)) H s' -> (∃ a, Heap.SameBut a s.heap s'.heap ∧ (a = X.env.locals ∨ X.env.cells.lookup x = some a)) -> Q () s') (hf : X.fn x = true ∨ X.env.scope.names.lookup x = some .local := by first | exact .inl rfl | exact .inr rfl | assumption) : wpAny M A (storeName X.env x u) Q E s := by
 obtain ⟨m, hn, hl⟩ := id I.loc
 have hcls : (X.env.scope.kind == .class || (X.env.scope.kind == .module && X.env.locals != X.env.globals)) = false := by rw [I.ok.kind]; rfl
 have hiσ : i < σ.length := by rw [I.len]; exact (List.getElem?_eq_some_iff.mp hi).1
 have cne := I.cne
 have tracked : ∀ {a : Addr} {h' : Heap}, (∃ o, s.heap.get? a = some o ∧ H a = none) -> Heap.SameBut a s.heap h' -> HOk X.prog X.w H h' := fun {a h'} ha hs b ob e => by
  obtain ⟨_, _, hfree⟩ := ha
  refine (I.hok b ob e).stay (fun c w' hc q => (hs.2 c ?_).trans q) (fun _ q => q) fun _ _ q => q
  rintro rfl
  rcases hc with rfl | hc
  ·rw [hfree] at e; cases e
  ·rw [hfree] at hc; cases hc
 rcases hx with hk | hk
 ·refine wpAny_storeName_local hk hn (fun h' hn' hs => ?_) hcls
  obtain ⟨oL, _, _, hoL, _⟩ := id hn
  refine h _ ⟨I.ok, I.os, I.bare, ⟨fun b o e n hb hx => ?_, fun b o e n hb hx => ?_, I.base.free, fun b o e hx => ?_, I.base.tups, I.base.frzs, I.base.tbls⟩, ⟨_, hn', fun j y v' e1 e2 e3 => ?_⟩, fun y c e => ?_, I.free, I.freeC, fun p hp => ?_, tracked ⟨oL, hoL, I.free⟩ hs, by simpa using I.len⟩ ⟨_, hs, .inl rfl⟩
  ·exact (hs.2 b (Nat.ne_of_lt (Nat.lt_of_lt_of_le (Heap.lt_size e) I.ok.above))).trans (I.base.keep b o e n hb hx)
  ·obtain ⟨sl, e1⟩ := I.base.slot b o e n hb hx
   exact ⟨sl, (hs.2 b (Nat.ne_of_lt (Nat.lt_of_lt_of_le (Heap.lt_size e) I.ok.above))).trans e1⟩
  ·obtain ⟨o', e1⟩ := I.base.there b o e hx
   exact ⟨o', (hs.2 b (Nat.ne_of_lt (Nat.lt_of_lt_of_le (Heap.lt_size e) I.ok.above))).trans e1⟩
  ·by_cases hj : j = i
   ·subst hj
    rw [hi] at e1; cases e1
    rw [List.getElem?_set_self hiσ] at e2
    cases e2
    exact ⟨u, r, .inl ⟨hk, by simp⟩⟩
   ·rw [List.getElem?_set_ne (Ne.symm hj)] at e2
    obtain ⟨u', r', q⟩ := hl j y v' e1 e2 e3
    refine ⟨u', r', ?_⟩
    rcases q with ⟨k, e⟩ | ⟨k, c, e, z⟩
    ·refine .inl ⟨k, ?_⟩
     have : y ≠ x := fun e => hj (Zjx hN e1 (e ▸ hi))
     simp [this, e]
    ·exact .inr ⟨k, c, e, z.sameBut hs (cne y c e)⟩
  ·obtain ⟨w', z⟩ := I.cell y c e
   exact ⟨w', z.sameBut hs (cne y c e)⟩
  ·obtain ⟨e, n, ne, nf, d⟩ := I.pin p hp
   exact ⟨(hs.2 p.1 ne).trans e, n, ne, nf, d⟩
 ·have hfn : X.fn x = true := by
   rcases hf with z | z
   ·exact z
   ·rw [z] at hk; cases hk
  obtain ⟨c, hc⟩ := I.ok.has x (.inl hk)
  obtain ⟨w', z⟩ := I.cell x c hc
  refine wpAny_storeName_cell I.ok.kind hk hc z (fun h' hc' hs => ?_)
  obtain ⟨oc, hoc, hocd⟩ := id z
  refine h { s with heap := h' } ⟨I.ok, I.os, I.bare, ⟨fun b o e n hb hx => ?_, fun b o e n hb hx => ?_, I.base.free, fun b o e hx => ?_, I.base.tups, I.base.frzs, I.base.tbls⟩, ⟨m, hn.sameBut hs (Ne.symm (cne x c hc)), fun j y v' e1 e2 e3 => ?_⟩, fun y c' e => ?_, I.free, I.freeC, fun p hp => ?_, tracked ⟨oc, hoc, I.freeC x c hc⟩ hs, by simpa using I.len⟩ ⟨c, hs, .inr hc⟩
  ·exact (hs.2 b (Nat.ne_of_lt (Nat.lt_of_lt_of_le (Heap.lt_size e) (I.ok.cab x c hfn hc)))).trans (I.base.keep b o e n hb hx)
  ·obtain ⟨sl, e1⟩ := I.base.slot b o e n hb hx
   exact ⟨sl, (hs.2 b (Nat.ne_of_lt (Nat.lt_of_lt_of_le (Heap.lt_size e) (I.ok.cab x c hfn hc)))).trans e1⟩
  ·obtain ⟨o', e1⟩ := I.base.there b o e hx
   exact ⟨o', (hs.2 b (Nat.ne_of_lt (Nat.lt_of_lt_of_le (Heap.lt_size e) (I.ok.cab x c hfn hc)))).trans e1⟩
  ·by_cases hj : j = i
   ·subst hj
    rw [hi] at e1; cases e1
    rw [List.getElem?_set_self hiσ] at e2
    cases e2
    exact ⟨u, r, .inr ⟨.inl hk, c, hc, hc'⟩⟩
   ·rw [List.getElem?_set_ne (Ne.symm hj)] at e2
    obtain ⟨u', r', q⟩ := hl j y v' e1 e2 e3
    refine ⟨u', r', ?_⟩
    rcases q with q | ⟨k, c', e, z'⟩
    ·exact .inl q
    ·refine .inr ⟨k, c', e, z'.sameBut hs ?_⟩
     rintro rfl
     exact hj (Zjx hN e1 (I.ok.inj _ _ _ e hc ▸ hi))
  ·by_cases hcc : c' = c
   ·subst hcc; exact ⟨_, hc'⟩
   ·obtain ⟨w2, z2⟩ := I.cell y c' e
    exact ⟨w2, z2.sameBut hs hcc⟩
  ·obtain ⟨e, n, ne, nf, d⟩ := I.pin p hp
   refine ⟨(hs.2 p.1 ?_).trans e, n, ne, nf, d⟩
   intro q
   rw [q, hoc] at e
   have q' : oc = p.2 := Option.some.inj e
   exact d w' (by rw [← q']; exact hocd)
theorem Zjr {M : Model} {A : Around} {E : Value -> Shared -> Prop} {i : Nat} {x : Str} {v : V} {u : Value} {Q : Unit -> Shared -> Prop} (I : Inv X pins σ H s) (hN : X.N.Nodup) (hi : X.N[i]? = some x) (hx : Loc X.env.scope x) (r : Zbv v u)
  (h : ∀ s', Inv X pins (σ.set i (some v)) H s' -> Q () s') (hf : X.fn x = true ∨ X.env.scope.names.lookup x = some .local := by first | exact .inl rfl | exact .inr rfl | assumption) : wpAny M A (storeName X.env x u) Q E s :=
 Zkn I hN hi hx r (fun s' I' _ => h s' I') hf
theorem Inv.call' {s' : Shared} {ch : List Addr} (I : Inv X pins σ H s) (ho : s'.os = s.os) (u : Un (frs X.stack) ch H H' s.heap s'.heap) (hok : HOk X.prog X.w H' s'.heap) (hg : AllBare s'.gens)
  (hch : ∀ b ∈ ch, (b ∈ X.ex ∨ X.s₀.heap.objs.size ≤ b) ∧ b ≠ X.env.locals ∧ (∀ x c, X.env.cells.lookup x = some c -> c ≠ b) ∧ ∀ p ∈ X.pn ++ pins, p.1 ≠ b) : Inv X pins σ H' s' := by
 obtain ⟨h', g', d', t', o'⟩ := s'
 have e : o' = s.os := ho
 subst e
 exact I.call (g' := g') (t' := t') (d' := d') u hok hg hch
end
noncomputable abbrev XK := Value -> Option Addr -> Hp -> Prop
noncomputable abbrev St := List (Option V)
noncomputable abbrev VK := V -> Hp -> Prop
noncomputable abbrev TE := St -> Hp -> VK -> Prop
noncomputable abbrev TT := St -> Hp -> (Bool -> Hp -> Prop) -> Prop
noncomputable abbrev TA := St -> Hp -> (List V -> Hp -> Prop) -> Prop
structure Ends where
 nx : St -> Hp -> Prop
 rt : VK
 bk : St -> Hp -> Prop := fun _ _ => False
 ct : St -> Hp -> Prop := fun _ _ => False
noncomputable abbrev TS := Ends -> St -> Hp -> Prop
noncomputable def EP (X : Cx) (pins : List (Addr × Obj)) (σ : St) (Q : VK) (u : Value) (s' : Shared) : Prop := ∃ v H', Inv X pins σ H' s' ∧ Zbv v u ∧ Q v H'
noncomputable def TP (X : Cx) (pins : List (Addr × Obj)) (σ : St) (Q : Bool -> Hp -> Prop) (b : Bool) (s' : Shared) : Prop := ∃ H', Inv X pins σ H' s' ∧ Q b H'
noncomputable def AP (X : Cx) (pins : List (Addr × Obj)) (σ : St) (Q : List V -> Hp -> Prop) (us : List Value) (s' : Shared) : Prop := ∃ vs H', Inv X pins σ H' s' ∧ Zbf vs us ∧ Q vs H'
noncomputable def SP (X : Cx) (pins : List (Addr × Obj)) (D : Ends) (f : Flow) (s' : Shared) : Prop :=
 match f with
 | .next => ∃ σ' H', Inv X pins σ' H' s' ∧ D.nx σ' H'
 | .brk => ∃ σ' H', Inv X pins σ' H' s' ∧ D.bk σ' H'
 | .cont => ∃ σ' H', Inv X pins σ' H' s' ∧ D.ct σ' H'
 | .ret u => ∃ v σ' H', Inv X pins σ' H' s' ∧ Zbv v u ∧ D.rt v H'
noncomputable def PE (X : Cx) (e : Expr) (t : TE) : Prop :=
 ∀ (pins : List (Addr × Obj)) (s : Shared) (σ : St) (H : Hp) (Q : VK), Inv X pins σ H s -> t σ H Q -> wpAny (model X.prog X.w) X.A (eval e X.env) (EP X pins σ Q) X.xe s
noncomputable def PT (X : Cx) (e : Expr) (t : TT) : Prop :=
 ∀ (pins : List (Addr × Obj)) (s : Shared) (σ : St) (H : Hp) (Q : Bool -> Hp -> Prop), Inv X pins σ H s -> t σ H Q -> wpAny (model X.prog X.w) X.A (isTrue e X.env (eval e X.env)) (TP X pins σ Q) X.xe s
noncomputable def PW (X : Cx) (e : Expr) (t : TT) : Prop :=
 ∀ (whole : Sem Value) (pins : List (Addr × Obj)) (s : Shared) (σ : St) (H : Hp) (Q : Bool -> Hp -> Prop), Inv X pins σ H s -> t σ H Q -> wpAny (model X.prog X.w) X.A (isTrue e X.env whole) (TP X pins σ Q) X.xe s
noncomputable def PA (X : Cx) (es : List Expr) (t : TA) : Prop :=
 ∀ (pos : Pos) (pins : List (Addr × Obj)) (s : Shared) (σ : St) (H : Hp) (Q : List V -> Hp -> Prop), Inv X pins σ H s -> t σ H Q -> wpAny (model X.prog X.w) X.A (spliced (backTo pos (starEach es X.env))) (AP X pins σ Q) X.xe s
noncomputable def PS (X : Cx) (st : Stmt) (t : TS) : Prop :=
 ∀ (pins : List (Addr × Obj)) (s : Shared) (σ : St) (H : Hp) (D : Ends), Inv X pins σ H s -> t D σ H -> wpAny (model X.prog X.w) X.A (exec st X.env) (SP X pins D) X.xe s
noncomputable def PSs (X : Cx) (st : List Stmt) (t : TS) : Prop :=
 ∀ (pins : List (Addr × Obj)) (s : Shared) (σ : St) (H : Hp) (D : Ends), Inv X pins σ H s -> t D σ H -> wpAny (model X.prog X.w) X.A (execs st X.env) (SP X pins D) X.xe s
theorem thn {α : Type} {t : Sem α} {Q Q' : α -> Shared -> Prop} {M : Model} {A : Around} {E : Value -> Shared -> Prop} {s : Shared} (h : wpAny M A t Q E s) (hQ : ∀ a s, Q a s -> Q' a s) : wpAny M A t Q' E s := wpAny_mono h hQ fun _ _ x => x
section
variable {X : Cx}
noncomputable def tVar (i : Nat) : TE := fun σ H Q => ∃ v, σ[i]? = some (some v) ∧ Q v H
noncomputable def tC (v : V) : TE := fun _ H Q => Q v H
theorem Yaa {i : Nat} {x : Str} {pos : Pos} (hN : X.N[i]? = some x) (hv : Vis X.env.scope x) (hd : (x == ("__debug__" : Str)) = false := by decide) (hcd : (x == ("__classdict__" : Str)) = false := by decide) : PE X (.Name x pos) (tVar i) := by
 intro pins s σ H Q I h
 obtain ⟨v, e, h⟩ := h
 obtain ⟨m, hn, hl⟩ := I.loc
 obtain ⟨u, r, l⟩ := hl i x v hN e hv
 have fin : EP X pins σ Q u s := ⟨v, H, I, r, h⟩
 rcases l with ⟨hk, hm⟩ | ⟨hk, c, hc, hcell⟩
 ·exact wpAny_Name (wpAny_loadName_local I.ok.kind hk hn hm fin) hd
 ·rcases hk with hk | hk
  ·exact wpAny_Name (wpAny_loadName_cell I.ok.kind hk hc hcell fin) hd
  ·exact wpAny_Name (wpAny_loadName_free I.ok.kind hk hc hcell fin hcd) hd
theorem Zuu {i j pos} : PE X (.Constant (.int i) j pos) (tC (.int i)) := fun _ _ _ H _ I h => wpAny_Constant_int ⟨.int i, H, I.tok _, ⟨_, rfl⟩, h⟩
theorem pe_bl {b j pos} : PE X (.Constant (.bool b) j pos) (tC (.bl b)) := fun _ _ _ H _ I h => Constant_bool ⟨.bl b, H, I, rfl, h⟩
theorem Yak {j pos} : PE X (.Constant .none j pos) (tC .non) := fun _ _ _ H _ I h => Constant_none ⟨.non, H, I, rfl, h⟩
theorem Zzr {x j pos} : PE X (.Constant (.str x) j pos) (tC (.str x)) := fun _ _ _ H _ I h => Calls.Constant_str ⟨.str x, H, I.tok _, ⟨_, rfl⟩, h⟩
noncomputable def Gl (X : Cx) (x : Str) : Prop := X.env.kindOf x = some .globalImplicit
theorem Zhg {E : Value -> Shared -> Prop} {pins : List (Addr × Obj)} {s : Shared} {σ : St} {H : Hp} {x : Str} {u : Value} {pos : Pos} {Q : Value -> Shared -> Prop} (I : Inv X pins σ H s) (hg : Gl X x) (hm : X.mg x = some u) (h : Q u s)
  (hd : (x == ("__debug__" : Str)) = false := by decide) : wpAny (model X.prog X.w) X.A (eval (.Name x pos) X.env) Q E s :=
 Calls.Name_function_global I.ok.kind hg (Calls.loadGlobal_global (by rw [I.ok.glob]; exact I.mod.glob.keeps I.bk) hm h) hd
theorem Zfw {E : Value -> Shared -> Prop} {pins : List (Addr × Obj)} {s : Shared} {σ : St} {H : Hp} {x : Str} {u : Value} {pos : Pos} {Q : Value -> Shared -> Prop} (I : Inv X pins σ H s) (hg : Gl X x) (hm : X.mg x = none) (hv : bootBuiltins x = some u) (h : Q u s)
  (hn : x ≠ "__name__" := by decide) (hd : (x == ("__debug__" : Str)) = false := by decide) : wpAny (model X.prog X.w) X.A (eval (.Name x pos) X.env) Q E s := by
 obtain ⟨mb, h1, h2⟩ := I.mod.blt
 exact Calls.Name_function_global I.ok.kind hg (Calls.loadGlobal_builtin (by rw [I.ok.glob]; exact I.mod.glob.keeps I.bk) hm (by rw [I.ok.blt]; exact h1.keeps I.bk) ((h2 x hn).trans hv) h) hd
theorem Zmo {x : Str} {v : V} {u : Value} {pos : Pos} (hg : Gl X x) (hm : X.mg x = some u) (r : Zbv v u) (hd : (x == ("__debug__" : Str)) = false := by decide) : PE X (.Name x pos) (tC v) :=
 fun _ _ _ H _ I h => Zhg I hg hm ⟨v, H, I, r, h⟩ hd
theorem Zu9 {x : Str} {v : V} {u : Value} {pos : Pos} (hg : Gl X x) (hm : X.mg x = none) (hv : bootBuiltins x = some u) (r : Zbv v u) (hn : x ≠ "__name__" := by decide) (hd : (x == ("__debug__" : Str)) = false := by decide) : PE X (.Name x pos) (tC v) :=
 fun _ _ _ H _ I h => Zfw I hg hm hv ⟨v, H, I, r, h⟩ hn hd
variable {a b : Expr} {ta tb : TE} {pos : Pos}
variable {tA tB' : TT} {rest : List Expr}
noncomputable def tAnd (t u : TT) : TT := fun σ H Q => t σ H fun c H1 => if c = true then u σ H1 Q else Q false H1
noncomputable def tOr (t u : TT) : TT := fun σ H Q => t σ H fun c H1 => if c = true then Q true H1 else u σ H1 Q
noncomputable def tNot (t : TT) : TT := fun σ H Q => t σ H fun c H1 => Q (!c) H1
theorem Zxp (ha : PT X a tA) : PW X (.BoolOp .And [a] pos) tA := by
 intro wh pins s σ H Q I h
 refine isTrue_and (thn (ha pins s σ H Q I h) fun c s1 e => ?_)
 cases c with
 | true => exact isTrue_and_nil e
 | false => exact e
theorem Ya9 (ha : PT X a tA) : PW X (.BoolOp .Or [a] pos) tA := by
 intro wh pins s σ H Q I h
 refine isTrue_or (thn (ha pins s σ H Q I h) fun c s1 e => ?_)
 cases c with
 | false => exact isTrue_or_nil e
 | true => exact e
theorem Zyh (ha : PT X a tA) (hb : PW X (.BoolOp .And (b :: rest) pos) tB') : PW X (.BoolOp .And (a :: b :: rest) pos) (tAnd tA tB') := by
 intro wh pins s σ H Q I h
 refine isTrue_and (thn (ha pins s σ H _ I h) fun c s1 zz => ?_)
 obtain ⟨H1, I1, q1⟩ := zz
 cases c with
 | true => exact hb wh pins s1 σ H1 Q I1 q1
 | false => exact ⟨H1, I1, q1⟩
theorem pw_or (ha : PT X a tA) (hb : PW X (.BoolOp .Or (b :: rest) pos) tB') : PW X (.BoolOp .Or (a :: b :: rest) pos) (tOr tA tB') := by
 intro wh pins s σ H Q I h
 refine isTrue_or (thn (ha pins s σ H _ I h) fun c s1 zz => ?_)
 obtain ⟨H1, I1, q1⟩ := zz
 cases c with
 | true => exact ⟨H1, I1, q1⟩
 | false => exact hb wh pins s1 σ H1 Q I1 q1
theorem Zz3 (ha : PT X a tA) : PT X (.UnaryOp .Not a pos) (tNot tA) := by
 intro pins s σ H Q I h
 exact isTrue_not (ha pins s σ H (fun c H1 => Q (!c) H1) I h)
noncomputable def tAndV (ta tb : TE) : TE := fun σ H Q => ta σ H fun x H1 => ∃ c, x = .bl c ∧ if c = true then tb σ H1 Q else Q (.bl false) H1
noncomputable def tOrV (ta tb : TE) : TE := fun σ H Q => ta σ H fun x H1 => ∃ c, x = .bl c ∧ if c = true then Q (.bl true) H1 else tb σ H1 Q
noncomputable def tNotV (ta : TE) : TE := fun σ H Q => ta σ H fun x H1 => ∃ c, x = .bl c ∧ Q (.bl (!c)) H1
theorem Zyi {op} {t : TE} (h : PE X a t) : PE X (.BoolOp op [a] pos) t := fun pins s σ H Q I hw => BoolOp_one (h pins s σ H Q I hw)
theorem Ya7 (ha : PE X a ta) (hb : PE X (.BoolOp .And (b :: rest) pos) tb) : PE X (.BoolOp .And (a :: b :: rest) pos) (tAndV ta tb) := by
 intro pins s σ H Q I h
 refine BoolOp_and (thn (ha pins s σ H _ I h) fun v s1 zz => ?_)
 obtain ⟨x, H1, I1, r1, q1⟩ := zz
 obtain ⟨c, rfl, q1⟩ := q1
 cases r1
 refine wpAny_truthy_bool ?_
 cases c with
 | true => exact hb pins s1 σ H1 Q I1 q1
 | false => exact ⟨.bl false, H1, I1, rfl, q1⟩
theorem pe_or (ha : PE X a ta) (hb : PE X (.BoolOp .Or (b :: rest) pos) tb) : PE X (.BoolOp .Or (a :: b :: rest) pos) (tOrV ta tb) := by
 intro pins s σ H Q I h
 refine BoolOp_or (thn (ha pins s σ H _ I h) fun v s1 zz => ?_)
 obtain ⟨x, H1, I1, r1, q1⟩ := zz
 obtain ⟨c, rfl, q1⟩ := q1
 cases r1
 refine wpAny_truthy_bool ?_
 cases c with
 | false => exact hb pins s1 σ H1 Q I1 q1
 | true => exact ⟨.bl true, H1, I1, rfl, q1⟩
theorem Zye (ha : PE X a ta) : PE X (.UnaryOp .Not a pos) (tNotV ta) := by
 intro pins s σ H Q I h
 refine UnaryOp_ (thn (ha pins s σ H _ I h) fun v s1 zz => ?_)
 obtain ⟨x, H1, I1, r1, q1⟩ := zz
 obtain ⟨c, rfl, q1⟩ := q1
 cases r1
 exact not_of (wpAny_truthy_bool ⟨.bl (!c), H1, I1, rfl, q1⟩)
noncomputable def tIf (t : TT) (ta tb : TE) : TE := fun σ H Q => t σ H fun c H1 => if c = true then ta σ H1 Q else tb σ H1 Q
theorem Ztn {c : Expr} (hc : PT X c tA) (ha : PE X a ta) (hb : PE X b tb) : PE X (.IfExp c a b pos) (tIf tA ta tb) := by
 intro pins s σ H Q I h
 refine wpAny_IfExp (thn (hc pins s σ H _ I h) fun d s1 zz => ?_)
 obtain ⟨H1, I1, q1⟩ := zz
 cases d with
 | true => exact ha pins s1 σ H1 Q I1 q1
 | false => exact hb pins s1 σ H1 Q I1 q1
end
noncomputable def SqL (K : PySem.W.Frag) (H : Hp) (a : Addr) (xs : List V) : Prop :=
 Rd H a (.lst xs) ∨
  ∃ (o : Obj) (its : Array Value) (n : Nat), K.lookup a = some o ∧ o.cls = .type "list" ∧ o.dict = none ∧ o.data = .seq its n ∧ its.size ≤ sizeLine ∧ Zbf xs its.toList
noncomputable def SqT (K : PySem.W.Frag) (H : Hp) (a : Addr) (xs : List V) : Prop :=
 Rd H a (.tup xs) ∨
  ∃ (o : Obj) (its : Array Value) (n : Nat), K.lookup a = some o ∧ o.cls = .type "tuple" ∧ o.data = .seq its n ∧ its.size ≤ sizeLine ∧ Zbf xs its.toList ∧ o.dict = none
noncomputable def absV : Value -> Option V
 | .none => some .non
 | .bool b => some (.bl b)
 | .int i _ => some (.int i)
 | .str x _ => some (.str x)
 | .bytes b _ => some (.byt b)
 | .float b _ => some (.flt b)
 | .ref a => some (.ref a)
 | .type n => some (.ty n)
 | _ => none
theorem Zbv.abs {x : V} {u : Value} (r : Zbv x u) : absV u = some x := by
 cases x with
 | non => cases r; rfl
 | bl _ => cases r; rfl
 | int _ => obtain ⟨t, rfl⟩ := r; rfl
 | str _ => obtain ⟨t, rfl⟩ := r; rfl
 | byt _ => obtain ⟨t, rfl⟩ := r; rfl
 | flt _ => obtain ⟨t, rfl⟩ := r; rfl
 | ref _ => cases r; rfl
 | ty _ => cases r; rfl
theorem Zbv.inj {x y : V} {u : Value} (r : Zbv x u) (q : Zbv y u) : x = y := Option.some.inj (r.abs.symm.trans q.abs)
theorem Zbf.inj : ∀ {xs ys : List V} {us : List Value}, Zbf xs us -> Zbf ys us -> xs = ys := by
 intro xs ys us h
 induction h generalizing ys with
 | nil => intro h'; cases h'; rfl
 | cons r t ih =>
  intro h'
  cases h' with
  | cons r' t' => rw [r.inj r', ih t']
section
variable {X : Cx} {pins : List (Addr × Obj)} {σ : St} {H : Hp} {s : Shared} {a : Addr} {xs ys : List V}
theorem SqL.of {K : PySem.W.Frag} (h : H a = some (.lst xs)) : SqL K H a xs := .inl (.inl h)
theorem SqT.of {K : PySem.W.Frag} (h : H a = some (.tup xs)) : SqT K H a xs := .inl (.inl h)
theorem Inv.list (I : Inv X pins σ H s) (h : SqL X.K H a xs) : ∃ its : List Value, Zbf xs its ∧ PlainL s.heap a its.toArray ∧ xs.length ≤ sizeLine := by
 rcases h with h | ⟨o, its, n, hk, hc, hd, hs, hz, r⟩
 ·obtain ⟨z, its, n, r, e⟩ := h.ok I.hok
  exact ⟨its, r, ⟨_, n, e, rfl, rfl, rfl⟩, z⟩
 ·refine ⟨its.toList, r, ⟨o, n, I.kIn a o hk, hc, hd, by simpa using hs⟩, ?_⟩
  have e := r.length
  simp only [Array.length_toList] at e
  omega
theorem Inv.tuple (I : Inv X pins σ H s) (h : SqT X.K H a xs) : ∃ its : List Value, Zbf xs its ∧ IsTup s.heap a its.toArray ∧ xs.length ≤ sizeLine := by
 rcases h with h | ⟨o, its, n, hk, hc, hs, hz, r, _⟩
 ·obtain ⟨z, its, r, p⟩ := h.ok I.hok
  exact ⟨its, r, p.tup, z⟩
 ·refine ⟨its.toList, r, ⟨o, I.kIn a o hk, hc, n, by simpa using hs⟩, ?_⟩
  have e := r.length
  simp only [Array.length_toList] at e
  omega
theorem Inv.list_inj (I : Inv X pins σ H s) (h : SqL X.K H a xs) (h' : SqL X.K H a ys) : xs = ys := by
 obtain ⟨its, r, ⟨o, n, e, _, _, d⟩, _⟩ := I.list h
 obtain ⟨its', r', ⟨o', n', e', _, _, d'⟩, _⟩ := I.list h'
 rw [e] at e'; cases e'
 rw [d] at d'
 injection d' with d1 _
 have : its = its' := by simpa using congrArg Array.toList d1
 subst this
 exact r.inj r'
theorem Inv.tuple_inj (I : Inv X pins σ H s) (h : SqT X.K H a xs) (h' : SqT X.K H a ys) : xs = ys := by
 obtain ⟨its, r, ⟨o, e, _, n, d⟩, _⟩ := I.tuple h
 obtain ⟨its', r', ⟨o', e', _, n', d'⟩, _⟩ := I.tuple h'
 rw [e] at e'; cases e'
 rw [d] at d'
 injection d' with d1 _
 have : its = its' := by simpa using congrArg Array.toList d1
 subst this
 exact r.inj r'
end
noncomputable abbrev Cx.wish (X : Cx) (E : Value -> Shared -> Prop) : Cx := { X with xe := E }
noncomputable abbrev Cx.nox (X : Cx) : Cx := X.wish fun _ _ => False
theorem Cx.Ok.wish {X : Cx} (ok : X.Ok) (E : Value -> Shared -> Prop) : (X.wish E).Ok :=
 ⟨ok.mod, ok.kind, ok.glob, ok.blt, ok.above, ok.inj, ok.has, ok.cab, ok.hd, ok.frames, ok.stk, ok.exf, ok.bs, ok.bsz, ok.noex, ok.exfs, ok.funs, ok.frf⟩
theorem Cx.Ok.unwish {X : Cx} {E : Value -> Shared -> Prop} (ok : (X.wish E).Ok) : X.Ok :=
 ⟨ok.mod, ok.kind, ok.glob, ok.blt, ok.above, ok.inj, ok.has, ok.cab, ok.hd, ok.frames, ok.stk, ok.exf, ok.bs, ok.bsz, ok.noex, ok.exfs, ok.funs, ok.frf⟩
section
variable {X : Cx} {pins : List (Addr × Obj)} {σ : St} {H : Hp} {s : Shared} {E : Value -> Shared -> Prop}
theorem Inv.wish (I : Inv X pins σ H s) (E : Value -> Shared -> Prop) : Inv (X.wish E) pins σ H s := ⟨I.ok.wish E, I.os, I.bare, I.base, I.loc, I.cell, I.free, I.freeC, I.pin, I.hok, I.len⟩
theorem Inv.unwish (I : Inv (X.wish E) pins σ H s) : Inv X pins σ H s := ⟨I.ok.unwish, I.os, I.bare, I.base, I.loc, I.cell, I.free, I.freeC, I.pin, I.hok, I.len⟩
theorem SP.unwish {D : Ends} {f : Flow} {s' : Shared} (h : SP (X.wish E) pins D f s') : SP X pins D f s' := by
 cases f with
 | next => obtain ⟨σ', H', I, q⟩ := h; exact ⟨σ', H', I.unwish, q⟩
 | brk => obtain ⟨σ', H', I, q⟩ := h; exact ⟨σ', H', I.unwish, q⟩
 | cont => obtain ⟨σ', H', I, q⟩ := h; exact ⟨σ', H', I.unwish, q⟩
 | ret u => obtain ⟨v, σ', H', I, r, q⟩ := h; exact ⟨v, σ', H', I.unwish, r, q⟩
theorem PT.nox {e : Expr} {t : TT} (h : PT X.nox e t) : PT X e t := fun pins s σ H Q I hw =>
 wpAny_mono (h pins s σ H Q (I.wish _) hw) (fun _ _ ⟨H', I', q⟩ => ⟨H', I'.unwish, q⟩) fun _ _ z => False.elim z
theorem PSs.nox {st : List Stmt} {t : TS} (h : PSs X.nox st t) : PSs X st t := fun pins s σ H D I hw =>
 wpAny_mono (h pins s σ H D (I.wish _) hw) (fun _ _ q => q.unwish) fun _ _ z => False.elim z
end
section
variable {X : Cx} {st : Stmt} {rest : List Stmt} {t u : TS} {e : Expr} {te : TE} {pos : Pos}
noncomputable def tNext : TS := fun D σ H => D.nx σ H
noncomputable def tSeq (t u : TS) : TS := fun D σ H => t { D with nx := u D } σ H
theorem Zxf : PSs X [] tNext := fun _ _ σ H _ I h => wpAny_execs_nil ⟨σ, H, I, h⟩
theorem Zg3 (h1 : PS X st t) (h2 : PSs X rest u) : PSs X (st :: rest) (tSeq t u) := by
 intro pins s σ H D I h
 refine wpAny_execs_cons (thn (h1 pins s σ H { D with nx := u D } I h) fun f s1 q => ?_)
 cases f with
 | next =>
  obtain ⟨σ', H', I', q⟩ := q
  exact h2 pins s1 σ' H' D I' q
 | ret v => exact q
 | brk => exact q
 | cont => exact q
theorem Inv.quiet {pins : List (Addr × Obj)} {σ : St} {H : Hp} {s : Shared} (I : Inv X pins σ H s) : interactive X.env = false := by simp [interactive, I.ok.kind]
noncomputable def tDrop (te : TE) : TS := fun D σ H => te σ H fun _ H1 => D.nx σ H1
theorem Zwe (he : PE X e te) (hs : swapsWith e none pos.line X.env = pure false := by rfl) : PS X (.Expr e pos) (tDrop te) := by
 intro pins s σ H D I h
 exact wpAny_Expr_any (thn (he pins s σ H _ I h) fun v s1 ⟨x, H1, I1, r1, q1⟩ => ⟨σ, H1, I1, q1⟩) I.quiet hs
noncomputable def tRet (te : TE) : TS := fun D σ H => te σ H D.rt
theorem Ya2 (he : PE X e te) : PS X (.Return (some e) pos) (tRet te) := by
 intro pins s σ H D I h
 exact wpAny_Return_some (thn (he pins s σ H _ I h) fun v s1 ⟨x, H1, I1, r1, q1⟩ => ⟨x, σ, H1, I1, r1, q1⟩)
noncomputable def tIfS (c : TT) (t u : TS) : TS := fun D σ H => c σ H fun b H1 => if b = true then t D σ H1 else u D σ H1
theorem Yaw {c : Expr} {a b : List Stmt} {tc : TT} (hc : PT X c tc) (ha : PSs X a t) (hb : PSs X b u) : PS X (.If c a b pos) (tIfS tc t u) := by
 intro pins s σ H D I h
 refine wpAny_If (thn (hc pins s σ H _ I h) fun d s1 zz => ?_)
 obtain ⟨H1, I1, q1⟩ := zz
 cases d with
 | true => exact ha pins s1 σ H1 D I1 q1
 | false => exact hb pins s1 σ H1 D I1 q1
end
noncomputable abbrev TG := V -> St -> Hp -> (St -> Hp -> Prop) -> Prop
noncomputable abbrev TGs := List V -> St -> Hp -> (St -> Hp -> Prop) -> Prop
noncomputable def PG (X : Cx) (target : Expr) (t : TG) : Prop :=
 ∀ (pins : List (Addr × Obj)) (s : Shared) (σ : St) (H : Hp) (v : V) (u : Value) (Q : St -> Hp -> Prop), Inv X pins σ H s -> Zbv v u -> t v σ H Q →
  wpAny (model X.prog X.w) X.A (assign target X.env u) (fun _ s' => ∃ σ' H', Inv X pins σ' H' s' ∧ Q σ' H') X.xe s
noncomputable def PGs (X : Cx) (ts : List Expr) (t : TGs) : Prop :=
 ∀ (pins : List (Addr × Obj)) (s : Shared) (σ : St) (H : Hp) (vs : List V) (us : List Value) (Q : St -> Hp -> Prop), Inv X pins σ H s -> Zbf vs us -> t vs σ H Q →
  wpAny (model X.prog X.w) X.A (assignInOrder ((assignEach ts X.env).map (·.2)) us) (fun _ s' => ∃ σ' H', Inv X pins σ' H' s' ∧ Q σ' H') X.xe s
noncomputable abbrev TSet := V -> V -> V -> Hp -> (Hp -> Prop) -> Prop
noncomputable def PSet (X : Cx) (t : TSet) : Prop :=
 ∀ (pins : List (Addr × Obj)) (s : Shared) (σ : St) (H : Hp) (o i v : V) (ov iv u : Value) (Q : Hp -> Prop), Inv X pins σ H s -> Zbv o ov -> Zbv i iv -> Zbv v u -> t o i v H Q →
  wpAny (model X.prog X.w) X.A (setItem ov iv u) (fun _ s' => ∃ H', Inv X pins σ H' s' ∧ Q H') X.xe s
section
variable {X : Cx} {pos : Pos}
noncomputable def Zka (i : Nat) : TG := fun v σ H Q => Q (σ.set i (some v)) H
theorem Zkd {i : Nat} {x : Str} (hN : X.N.Nodup) (hi : X.N[i]? = some x) (hx : Loc X.env.scope x) (hf : X.fn x = true ∨ X.env.scope.names.lookup x = some .local := by first | exact .inl rfl | exact .inr rfl | assumption) : PG X (.Name x pos) (Zka i) := by
 intro pins s σ H v u Q I r h
 exact wpAny_assign_Name (Zjr I hN hi hx r (fun s' I' => ⟨_, H, I', h⟩) hf)
noncomputable def gNil : TGs := fun vs σ H Q => vs = [] ∧ Q σ H
noncomputable def Zpj (t : TG) (u : TGs) : TGs := fun vs σ H Q => ∃ v r, vs = v :: r ∧ t v σ H fun σ' H' => u r σ' H' Q
theorem Zq0 : PGs X [] gNil := by
 intro pins s σ H vs us Q I r h
 obtain ⟨e, h⟩ := h
 subst e
 cases r
 exact assignInOrder_nil ⟨σ, H, I, h⟩
theorem Zjw {e : Expr} {es : List Expr} {t : TG} {u : TGs} (h1 : PG X e t) (h2 : PGs X es u)
  (hs : (assignEach (e :: es) X.env).map (·.2) = assign e X.env :: (assignEach es X.env).map (·.2) := by rfl) : PGs X (e :: es) (Zpj t u) := by
 intro pins s σ H vs us Q I r h
 obtain ⟨v, vr, e1, h⟩ := h
 subst e1
 cases r with
 | cons r rr =>
  rw [hs]
  refine assignInOrder_cons (thn (h1 pins s σ H _ _ _ I r h) fun _ s1 zz => ?_)
  obtain ⟨σ1, H1, I1, q1⟩ := zz
  exact h2 pins s1 σ1 H1 _ _ Q I1 rr q1
noncomputable def gTup (K : PySem.W.Frag) (n : Nat) (t : TGs) : TG := fun v σ H Q => ∃ a xs, v = .ref a ∧ SqT K H a xs ∧ xs.length = n ∧ t xs σ H Q
theorem Zu0 {es : List Expr} {k : Nat} {t : TGs} {n : Nat} (hc : X.calm = true) (h : PGs X es t)
  (hn : (assignEach es X.env).length = n := by rfl) (hst : (assignEach es X.env).findIdx? (·.1) = none := by rfl) : PG X (.Tuple es k pos) (gTup X.K n t) := by
 intro pins s σ H v u Q I r hw
 obtain ⟨a, xs, e1, hq, hl, hw⟩ := hw
 subst e1
 cases r
 obtain ⟨its, rv, ht, hz⟩ := I.tuple hq
 refine assign_Tuple_tuple (I.ok.hd hc) ht (by simp [hn, ← hl, rv.length]) hst fun h' hx => ?_
 have I1 : Inv X pins σ H { s with heap := h' } := I.kept (t' := s.toks) fun b o e => hx b o (Nat.ne_of_lt (Heap.lt_size e)) e
 exact h pins _ σ H xs _ Q I1 (by simpa using rv) hw
noncomputable def gSub (to ti : TE) (t : TSet) : TG := fun v σ H Q => to σ H fun o H1 => ti σ H1 fun i H2 => t o i v H2 fun H3 => Q σ H3
theorem Zz6 {o i : Expr} {to ti : TE} {t : TSet} (ho : PE X o to) (hi : PE X i ti) (hs : PSet X t)
  (ha : ∀ v, assign (.Subscript o i pos) X.env v = (do
   let ov ← holding [v] (eval o X.env)
   let iv ← holding [v, ov] (eval i X.env)
   standAt pos
   holding [v, ov, iv] (setItem ov iv v)
   release [v, ov, iv] []) := by intro _; rfl) : PG X (.Subscript o i pos) (gSub to ti t) := by
 intro pins s σ H v u Q I r h
 rw [ha]
 refine wpAny_bind (wpAny_holding (thn (ho pins s σ H _ I h) fun ov s1 zz => ?_))
 obtain ⟨x, H1, I1, r1, q1⟩ := zz
 refine wpAny_bind (wpAny_holding (thn (hi pins s1 σ H1 _ I1 q1) fun iv s2 zz => ?_))
 obtain ⟨y, H2, I2, r2, q2⟩ := zz
 refine wpAny_bind (wpAny_standAt (wpAny_bind (wpAny_holding (thn (hs pins s2 σ H2 x y v ov iv u _ I2 r1 r2 r q2) fun _ s3 zz => ?_))))
 obtain ⟨H3, I3, q3⟩ := zz
 exact wpAny_release ⟨σ, H3, I3, q3⟩
noncomputable def tAsg (te : TE) (g : TG) : TS := fun D σ H => te σ H fun x H1 => g x σ H1 D.nx
theorem Yan {tg e : Expr} {te : TE} {g : TG} (he : PE X e te) (hg : PG X tg g) (hs : swapsWithSole [tg] e pos.line X.env = pure false := by rfl) (hw : swappedStores [tg] e X.env = pure none := by rfl)
  (h1 : (assignEach [tg] X.env).map (·.2) = [assign tg X.env] := by rfl) : PS X (.Assign [tg] e pos) (tAsg te g) := by
 intro pins s σ H D I h
 refine wpAny_Assign_stores (thn (he pins s σ H _ I h) fun v s1 ⟨x, H1, I1, r1, q1⟩ => ?_) hs hw
 rw [h1]
 exact thn (hg pins s1 σ H1 x v _ I1 r1 q1) fun _ s2 q => q
theorem Yax {i : Nat} {x : Str} {e : Expr} {te : TE} {pos' : Pos} (hN : X.N.Nodup) (hi : X.N[i]? = some x) (hx : Loc X.env.scope x) (he : PE X e te) (hs : swapsWith e (some (.Name x pos')) pos.line X.env = pure false := by rfl) (hf : X.fn x = true ∨ X.env.scope.names.lookup x = some .local := by first | exact .inl rfl | exact .inr rfl | assumption) :
  PS X (.Assign [.Name x pos'] e pos) (tAsg te (Zka i)) := by
 intro pins s σ H D I h
 refine wpAny_Assign_Name (thn (he pins s σ H _ I h) fun v s1 ⟨y, H1, I1, r1, q1⟩ => ?_) hs
 exact Zjr I1 hN hi hx r1 (fun s2 I2 => ⟨_, H1, I2, q1⟩) hf
end
structure It where
 go : Nat -> Hp -> Prop
 yld : Nat -> Hp -> V -> Hp -> Prop
 stop : Nat -> Hp -> Prop
noncomputable def Zl3 (X : Cx) (pins : List (Addr × Obj)) (H : Hp) (b : Addr) : Prop :=
 H b = none ∧ b ≠ X.env.locals ∧ b ∉ X.fs ∧ (b ∈ X.ex ∨ X.s₀.heap.objs.size ≤ b) ∧ (∀ x c, X.env.cells.lookup x = some c -> c ≠ b) ∧ ∀ p ∈ X.pn ++ pins, p.1 ≠ b
theorem Inv.fpOk {X : Cx} {pins : List (Addr × Obj)} {σ : St} {H H' : Hp} {s : Shared} {b : Addr} (I : Inv X pins σ H s) (hb : s.heap.objs.size ≤ b) (hn : H' b = none) : Zl3 X pins H' b := by
 refine ⟨hn, Nat.ne_of_gt (Nat.lt_of_lt_of_le I.lt hb), I.nofs hb, .inr (Nat.le_trans I.sz hb), fun x c e z => ?_, fun p hp z => ?_⟩
 ·obtain ⟨v, q⟩ := I.cell x c e
  exact absurd (Nat.lt_of_lt_of_le q.lt (by rw [z]; exact hb)) (Nat.lt_irrefl _)
 ·exact absurd (Nat.lt_of_lt_of_le (Heap.lt_size (I.pin p hp).1) (by rw [z]; exact hb)) (Nat.lt_irrefl _)
structure Turn (P : Program) (w : World) (K : PySem.W.Frag) (tg : Expr) (J : It) (fp : List Addr) (it : Addr) (tn : Nat -> Heap -> Prop) : Prop where
 mem : it ∈ fp
 obj : ∀ i h, tn i h -> ∀ b ∈ fp, ∃ o, h.get? b = some o ∧ ∀ v, o.data ≠ .cell v
 keep : ∀ i h h', tn i h -> (∀ b ∈ fp, ∀ o, h.get? b = some o -> h'.get? b = some o) -> tn i h'
 item : ∀ (X : Cx), X.prog = P -> X.w = w -> X.K = K -> X.calm = true -> ∀ (i : Nat) (pins : List (Addr × Obj)) (s : Shared) (σ : St) (H : Hp) (E : Value -> Shared -> Prop), Inv X pins σ H s -> (∀ b ∈ fp, Zl3 X pins H b) -> tn i s.heap -> J.go i H →
  wpAny (model P w) X.A (pyNext (.ref it)) (fun r s1 => ∃ u, r = some u ∧
   wpAny (model P w) X.A (letOwnedTupleGo tg (.ref it) u) (fun _ s2 => ∃ x H', Inv X pins σ H' s2 ∧ Zbv x u ∧ J.yld i H x H' ∧ tn (i + 1) s2.heap ∧ ∀ b ∈ fp, H' b = none) E s1) E s
 done : ∀ (X : Cx), X.prog = P -> X.w = w -> X.K = K -> X.calm = true -> ∀ (i : Nat) (pins : List (Addr × Obj)) (s : Shared) (σ : St) (H : Hp) (E : Value -> Shared -> Prop), Inv X pins σ H s -> (∀ b ∈ fp, Zl3 X pins H b) -> tn i s.heap -> J.stop i H →
  wpAny (model P w) X.A (pyNext (.ref it)) (fun r s1 => r = none ∧ Inv X pins σ H s1) E s
 self : ∀ (A : Around) (i : Nat) (s : Shared) (Q : Value -> Shared -> Prop) (E : Value -> Shared -> Prop), tn i s.heap -> Q (.ref it) s -> wpAny (model P w) A (pyIter (.ref it)) Q E s
noncomputable abbrev TI := St -> Hp -> (It -> Hp -> Prop) -> Prop
noncomputable def PIE (X : Cx) (pins : List (Addr × Obj)) (σ : St) (tg : Expr) (R : It -> Hp -> Prop) (itv : Value) (s2 : Shared) : Prop :=
 ∃ (it : Addr) (fp : List Addr) (tn : Nat -> Heap -> Prop) (J : It) (H' : Hp), itv = .ref it ∧ Inv X pins σ H' s2 ∧ Turn X.prog X.w X.K tg J fp it tn ∧ tn 0 s2.heap ∧ (∀ b ∈ fp, Zl3 X pins H' b) ∧ R J H'
noncomputable def PI (X : Cx) (tg iter : Expr) (wi : TI) : Prop :=
 ∀ (pins : List (Addr × Obj)) (s : Shared) (σ : St) (H : Hp) (R : It -> Hp -> Prop), Inv X pins σ H s -> wi σ H R →
  wpAny (model X.prog X.w) X.A (eval iter X.env) (fun v s1 => wpAny (model X.prog X.w) X.A (pyIter v) (PIE X pins σ tg R) X.xe s1) X.xe s
theorem Zqj {M : Model} {A : Around} {E : Value -> Shared -> Prop} {s : Shared} {tg : Expr} {it : Addr} {u : Value} {o : Obj} {n : String} {vs : Array Value} {Q : Unit -> Shared -> Prop} (ho : s.heap.get? it = some o) (hc : o.cls = .type n) (hd : o.data = .fields vs)
  (hn : ["enumerate", "zip", "dict_itemiterator", "dict_reverseitemiterator", "odict_iterator", "itertools.zip_longest", "itertools.pairwise"].contains n = false) (hQ : Q () s) : wpAny M A (letOwnedTupleGo tg (.ref it) u) Q E s := by
 unfold letOwnedTupleGo
 cases tg <;> first
  | exact wpAny_pure hQ
  | (cases u <;> first
    | exact wpAny_pure hQ
    | (refine wpAny_bind (wpAny_load ho ?_)
       rw [hc, hd]
       show wpAny M A (if (["enumerate", "zip", "dict_itemiterator", "dict_reverseitemiterator", "odict_iterator", "itertools.zip_longest", "itertools.pairwise"].contains n && vs[0]? == some (rawInt _)) = true then _ else _) Q E s
       rw [if_neg (by intro h; rw [hn, Bool.false_and] at h; cases h)]
       exact wpAny_pure hQ))
noncomputable def Itl (K : PySem.W.Frag) (a : Addr) : It :=
 ⟨fun i H => ∃ xs x, SqL K H a xs ∧ xs[i]? = some x, fun i H x H' => H' = H ∧ ∀ xs, SqL K H a xs -> xs[i]? = some x, fun i H => ∃ xs, SqL K H a xs ∧ xs.length ≤ i⟩
noncomputable def Itt (K : PySem.W.Frag) (a : Addr) : It :=
 ⟨fun i H => ∃ xs x, SqT K H a xs ∧ xs[i]? = some x, fun i H x H' => H' = H ∧ ∀ xs, SqT K H a xs -> xs[i]? = some x, fun i H => ∃ xs, SqT K H a xs ∧ xs.length ≤ i⟩
noncomputable def Itr (lo : Int) (n : Nat) : It := ⟨fun i _ => i < n, fun i H x H' => H' = H ∧ x = .int (lo + i), fun i _ => n ≤ i⟩
theorem Zrx {P : Program} {w : World} {K : PySem.W.Frag} {tg : Expr} (a it : Addr) : Turn P w K tg (Itl K a) [it] it (fun i h => h.IsListIter it a i) where
 mem := by simp
 obj := fun i h st b hb => by
  have e : b = it := by simpa using hb
  subst e
  obtain ⟨o, e, c, d⟩ := st
  exact ⟨o, e, fun v z => by rw [d] at z; cases z⟩
 keep := fun i h h' st k => st.at fun o e => k it (by simp) o e
 item := by
  intro X hP hw hK hc i pins s σ H E I hf st hg
  subst hP hw hK
  obtain ⟨xs, x, hq, hx⟩ := hg
  obtain ⟨its, rv, p, hz⟩ := I.list hq
  obtain ⟨u, hu, ru⟩ := rv.get hx
  obtain ⟨f0, f1, f2, f3, f4, f5⟩ := hf it (by simp)
  refine wpAny_pyNext_list_item st p.isList (x := u) (by simpa using hu) fun h' st' sb => ?_
  have I1 : Inv X pins σ H { s with heap := h' } := I.turned (t' := s.toks) (fun b o hb e => (sb.2 b hb).trans e) f0 f1 f3 f4 f5
  obtain ⟨o, e, c, d⟩ := id st'
  exact ⟨u, rfl, Zqj (s := { s with heap := h' }) e c d (by decide) ⟨x, H, I1, ru, ⟨rfl, fun ys hy => by rw [I.list_inj hy hq]; exact hx⟩, st', fun b hb => (hf b hb).1⟩⟩
 done := by
  intro X hP hw hK hc i pins s σ H E I hf st hg
  subst hP hw hK
  obtain ⟨xs, hq, hx⟩ := hg
  obtain ⟨its, rv, p, hz⟩ := I.list hq
  obtain ⟨f0, f1, f2, f3, f4, f5⟩ := hf it (by simp)
  have hl := rv.length
  exact wpAny_pyNext_list_end (I.ok.hd hc) st p.isList (by simp; omega) fun h' eb => ⟨rfl, I.turned (t' := s.toks) (fun b o hb e => eb b o hb e) f0 f1 f3 f4 f5⟩
 self := fun _ _ _ _ _ st h => wpAny_pyIter_listiter st h
theorem Zom {P : Program} {w : World} {K : PySem.W.Frag} {tg : Expr} (a it : Addr) : Turn P w K tg (Itt K a) [it] it (fun i h => h.IsTupleIter it a i) where
 mem := by simp
 obj := fun i h st b hb => by
  have e : b = it := by simpa using hb
  subst e
  obtain ⟨o, e, c, d⟩ := st
  exact ⟨o, e, fun v z => by rw [d] at z; cases z⟩
 keep := fun i h h' st k => st.at fun o e => k it (by simp) o e
 item := by
  intro X hP hw hK hc i pins s σ H E I hf st hg
  subst hP hw hK
  obtain ⟨xs, x, hq, hx⟩ := hg
  obtain ⟨its, rv, p, hz⟩ := I.tuple hq
  obtain ⟨u, hu, ru⟩ := rv.get hx
  obtain ⟨f0, f1, f2, f3, f4, f5⟩ := hf it (by simp)
  refine wpAny_pyNext_tuple_item st (show s.heap.IsTuple a its.toArray from p) (x := u) (by simpa using hu) fun h' st' sb => ?_
  have I1 : Inv X pins σ H { s with heap := h' } := I.turned (t' := s.toks) (fun b o hb e => (sb.2 b hb).trans e) f0 f1 f3 f4 f5
  obtain ⟨o, e, c, d⟩ := id st'
  exact ⟨u, rfl, Zqj (s := { s with heap := h' }) e c d (by decide) ⟨x, H, I1, ru, ⟨rfl, fun ys hy => by rw [I.tuple_inj hy hq]; exact hx⟩, st', fun b hb => (hf b hb).1⟩⟩
 done := by
  intro X hP hw hK hc i pins s σ H E I hf st hg
  subst hP hw hK
  obtain ⟨xs, hq, hx⟩ := hg
  obtain ⟨its, rv, p, hz⟩ := I.tuple hq
  obtain ⟨f0, f1, f2, f3, f4, f5⟩ := hf it (by simp)
  have hl := rv.length
  exact wpAny_pyNext_tuple_end (I.ok.hd hc) st (show s.heap.IsTuple a its.toArray from p) (by simp; omega) fun h' eb => ⟨rfl, I.turned (t' := s.toks) (fun b o hb e => eb b o hb e) f0 f1 f3 f4 f5⟩
 self := fun _ _ _ _ _ st h => wpAny_pyIter_tupleiter st h
theorem Zol {P : Program} {w : World} {K : PySem.W.Frag} {tg : Expr} (it : Addr) (lo : Int) (n : Nat) : Turn P w K tg (Itr lo n) [it] it (fun i h => IsRangeIter h it (lo + (i : Nat) * 1) ((n : Int) - (i : Nat)) 1) where
 mem := by simp
 obj := fun i h st b hb => by
  have e : b = it := by simpa using hb
  subst e
  exact ⟨_, st, fun v z => by
   have z' : Data.fields _ = Data.cell v := z
   cases z'⟩
 keep := fun i h h' st k => k it (by simp) _ st
 item := by
  intro X hP hw hK hc i pins s σ H E I hf st hg
  subst hP hw hK
  obtain ⟨f0, f1, f2, f3, f4, f5⟩ := hf it (by simp)
  have W := Walks.range (prog := X.prog) (w := X.w) (I.ok.hd hc) it lo 1 n
  refine W.item i s _ _ hg st fun v h' tk hv st' kk => ?_
  obtain ⟨t, rfl⟩ := hv
  have I1 : Inv X pins σ H { s with heap := h', toks := tk } := I.turned (fun b o hb e => kk b o (by simpa using hb) e) f0 f1 f3 f4 f5
  refine ⟨_, rfl, Zqj (s := { s with heap := h', toks := tk }) (n := "range_iterator") st' rfl rfl (by decide) ⟨.int (lo + i), H, I1, ⟨t, ?_⟩, ⟨rfl, rfl⟩, st', fun b hb => (hf b hb).1⟩⟩
  rw [Int.mul_one]
 done := by
  intro X hP hw hK hc i pins s σ H E I hf st hg
  subst hP hw hK
  obtain ⟨f0, f1, f2, f3, f4, f5⟩ := hf it (by simp)
  exact wpAny_pyNext_range_end (I.ok.hd hc) st (by have : n ≤ i := hg; omega) fun h' eb => ⟨rfl, I.turned (t' := s.toks) (fun b o hb e => eb b o hb e) f0 f1 f3 f4 f5⟩
 self := fun _ _ _ _ _ st h => wpAny_pyIter_rangeiter st h
section
variable {X : Cx} {tg : Expr}
theorem Znr {pins : List (Addr × Obj)} {σ : St} {H : Hp} {s : Shared} {R : It -> Hp -> Prop} {E : Value -> Shared -> Prop} {lo hi : Int} {t u v : Tok} {tk : Nat} (I : Inv X pins σ H s) (h1 : -(2 ^ 62) ≤ lo) (h2 : lo < 2 ^ 62) (h3 : -(2 ^ 62) ≤ hi) (h4 : hi < 2 ^ 62)
  (q : R (Itr lo (hi - lo).toNat) H) : wpAny (model X.prog X.w) X.A (pyIter (.ref s.heap.objs.size)) (PIE X pins σ tg R) E { s with heap := s.heap.push { cls := .type "range", data := .fields #[.int lo t, .int hi u, .int 1 v] }, toks := tk } := by
 refine wpAny_pyIter_range (IsRange.new ..) (small_one h1 h2 h3 h4) ?_
 have I1 : Inv X pins σ H { s with heap := s.heap.push { cls := .type "range", data := .fields #[.int lo t, .int hi u, .int 1 v] }, toks := tk } := I.kept fun b o e => Heap.get?_push_of_some _ e
 refine ⟨(s.heap.push { cls := .type "range", data := .fields #[.int lo t, .int hi u, .int 1 v] }).objs.size, [(s.heap.push { cls := .type "range", data := .fields #[.int lo t, .int hi u, .int 1 v] }).objs.size], _, _, H, rfl,
  I1.kept (t' := tk) fun b o e => Heap.get?_push_of_some _ e, Zol _ lo (hi - lo).toNat, ?_, fun b hb => ?_, q⟩
 ·have e1 : lo + ((0 : Nat) : Int) * 1 = lo := by simp
  have e2 : (((hi - lo).toNat : Nat) : Int) - ((0 : Nat) : Int) = Builtin.Range.rangeSize lo hi 1 := by rw [rangeSize_one]; split <;> omega
  show IsRangeIter _ _ (lo + ((0 : Nat) : Int) * 1) ((((hi - lo).toNat : Nat) : Int) - ((0 : Nat) : Int)) 1
  rw [e1, e2]
  exact Heap.get?_push_size _ rfl
 ·have e : b = (s.heap.push { cls := .type "range", data := .fields #[.int lo t, .int hi u, .int 1 v] }).objs.size := by simpa using hb
  subst e
  exact I1.fpOk (Nat.le_refl _) (I1.hok.fresh (Nat.le_refl _))
noncomputable def iRng1 (ta : TA) : TI := fun σ H R => ta σ H fun vs H1 => ∃ j : Int, vs = [.int j] ∧ -(2 ^ 62) ≤ j ∧ j < 2 ^ 62 ∧ R (Itr 0 j.toNat) H1
noncomputable def iRng2 (ta : TA) : TI := fun σ H R => ta σ H fun vs H1 => ∃ i j : Int, vs = [.int i, .int j] ∧ (-(2 ^ 62) ≤ i ∧ i < 2 ^ 62 ∧ -(2 ^ 62) ≤ j ∧ j < 2 ^ 62) ∧ R (Itr i (j - i).toNat) H1
theorem Zo3 {a : Expr} {ta : TA} {p pos : Pos} (hg : Gl X "range") (hm : X.mg "range" = none) (ha : PA X [a] ta) (hs : starEach [a] X.env = [(false, eval a X.env)] := by rfl) : PI X tg (.Call (.Name "range" p) [a] [] pos) (iRng1 ta) := by
 intro pins s σ H R I h
 refine Call_ (Zfw I hg hm boot_range (PyProof.Rows.callWith_type1 (thn (ha pos pins s σ H _ I h) fun us s1 ⟨vs, H1, I1, r1, q1⟩ => ?_) hs rfl))
 obtain ⟨j, e, q1, q2, q⟩ := q1
 subst e
 cases r1 with
 | cons r rr =>
  cases rr
  obtain ⟨t, rfl⟩ := r
  exact call_range_1 (Znr I1 (by omega) (by omega) q1 q2 (by simpa using q))
theorem Zp3 {a b : Expr} {ta : TA} {p pos : Pos} (hg : Gl X "range") (hm : X.mg "range" = none) (ha : PA X [a, b] ta) (hs : starEach [a, b] X.env = [(false, eval a X.env), (false, eval b X.env)] := by rfl) (hs2 : starEach [b] X.env = [(false, eval b X.env)] := by rfl) :
  PI X tg (.Call (.Name "range" p) [a, b] [] pos) (iRng2 ta) := by
 intro pins s σ H R I h
 refine Call_ (Zfw I hg hm boot_range (PyProof.Rows.callWith_type1 (thn (ha pos pins s σ H _ I h) fun us s1 ⟨vs, H1, I1, r1, q1⟩ => ?_) (by rw [hs, hs2]) (by rw [hs2]; rfl)))
 obtain ⟨i, j, e, ⟨q1, q2, q3, q4⟩, q⟩ := q1
 subst e
 cases r1 with
 | cons r rr =>
  cases rr with
  | cons r' rr =>
   cases rr
   obtain ⟨t, rfl⟩ := r
   obtain ⟨t', rfl⟩ := r'
   exact call_range_2 (Znr I1 q1 q2 q3 q4 q)
noncomputable def tFor (wi : TI) (g : TG) (tb : TS) : TS := fun D σ H => wi σ H fun J H1 => ∃ W : Nat -> Nat -> St -> Hp -> Prop, (∃ m, W 0 m σ H1) ∧ ∀ i m σ H, W i m σ H →
 (J.stop i H ∧ D.nx σ H) ∨ (J.go i H ∧ ∃ N : St -> Hp -> Prop, (∀ σ' H', N σ' H' -> ∃ m', m' < m ∧ W (i + 1) m' σ' H') ∧ ∀ x H', J.yld i H x H' -> g x σ H' fun σ2 H2 => tb { D with nx := N, ct := N, bk := D.nx } σ2 H2)
noncomputable def Ziu (fp : List Addr) (h : Heap) : List (Addr × Obj) := fp.filterMap fun b => (h.get? b).map fun o => (b, o)
theorem Zcw {fp : List Addr} {h : Heap} {b : Addr} {o : Obj} (hb : b ∈ fp) (e : h.get? b = some o) : (b, o) ∈ Ziu fp h := List.mem_filterMap.mpr ⟨b, hb, by rw [e]; rfl⟩
theorem Zqu {fp : List Addr} {h : Heap} {p : Addr × Obj} (hp : p ∈ Ziu fp h) : p.1 ∈ fp ∧ h.get? p.1 = some p.2 := by
 obtain ⟨b, hb, e⟩ := List.mem_filterMap.mp hp
 cases q : h.get? b with
 | none => rw [q] at e; cases e
 | some o =>
  rw [q] at e
  have e' : (b, o) = p := Option.some.inj e
  subst e'
  exact ⟨hb, q⟩
theorem Inv.pinned {pins : List (Addr × Obj)} {σ : St} {H : Hp} {s : Shared} {fp : List Addr} (I : Inv X pins σ H s) (hf : ∀ b ∈ fp, Zl3 X pins H b) (ho : ∀ b ∈ fp, ∃ o, s.heap.get? b = some o ∧ ∀ v, o.data ≠ .cell v) : Inv X (pins ++ Ziu fp s.heap) σ H s :=
 I.pins_of fun p hp => (List.mem_append.mp hp).elim (fun z => I.pin p (List.mem_append_right _ z)) fun z => by
  obtain ⟨hb, e⟩ := Zqu z
  obtain ⟨f0, f1, f2, _⟩ := hf p.1 hb
  obtain ⟨o, e', d⟩ := ho p.1 hb
  rw [e] at e'; cases e'
  exact ⟨e, f0, f1, f2, d⟩
theorem Inv.unpinned {pins pl : List (Addr × Obj)} {σ : St} {H : Hp} {s : Shared} (I : Inv X (pins ++ pl) σ H s) : Inv X pins σ H s := I.pins_of fun p hp => I.pin p (List.mem_append_right _ (List.mem_append_left _ hp))
theorem Yau {iter : Expr} {body : List Stmt} {wi : TI} {g : TG} {tb : TS} {pos : Pos} (hp : PassesOwn (model X.prog X.w) X.A X.env X.xe) (hc : X.calm = true) (hi : PI X tg iter wi) (hg : PG X tg g) (hb : PSs X body tb)
  (hs : ∀ x, foldedSetIterable iter X.env x = pure x := by intro _; rfl) : PS X (.For tg iter body [] pos) (tFor wi g tb) := by
 intro pins s σ H D I h
 refine wpAny_For (thn (hi pins s σ H _ I h) fun v s1 h1 => thn h1 fun itv s2 h2 => ?_) hs
 obtain ⟨it, fp, tn, J, H2, e, I2, T, st2, f2, W, ⟨m0, w0⟩, turn⟩ := h2
 subst e
 -- what stays true of the iterator's objects through the loop
 have stat : ∀ {H' : Hp}, (∀ b ∈ fp, H' b = none) -> ∀ b ∈ fp, Zl3 X pins H' b := fun hn b hb => ⟨hn b hb, (f2 b hb).2⟩
 refine codeAny_forLoop_any (fun n s' => ∃ i σ' H', Inv X pins σ' H' s' ∧ tn i s'.heap ∧ (∀ b ∈ fp, H' b = none) ∧ W i n σ' H') ?_ m0 ⟨0, σ, H2, I2, st2, fun b hb => (f2 b hb).1, w0⟩
 rintro n s3 ⟨i, σ3, H3, I3, st3, fr3, w3⟩
 rcases turn i n σ3 H3 w3 with ⟨stop, qn⟩ | ⟨go, N, hN, step⟩
 ·refine wpAny_passesOwn hp (thn (T.done X rfl rfl rfl hc i pins s3 σ3 H3 X.xe I3 (stat fr3) st3 stop) fun r s4 zz => ?_)
  obtain ⟨hr, I4⟩ := zz
  subst hr
  exact wpAny_execs_nil ⟨σ3, H3, I4, qn⟩
 ·refine wpAny_passesOwn hp (thn (T.item X rfl rfl rfl hc i pins s3 σ3 H3 X.xe I3 (stat fr3) st3 go) fun r s4 zz => ?_)
  obtain ⟨u, hr, h4⟩ := zz
  subst hr
  refine wpAny_passesOwn hp (thn h4 fun _ s5 zz => ?_)
  obtain ⟨x, H5, I5, r5, y5, st5, fr5⟩ := zz
  have I5' := I5.pinned (stat fr5) (T.obj _ _ st5)
  refine wpAny_passesOwn hp (thn (hg _ s5 σ3 H5 x u _ I5' r5 (step x H5 y5)) fun _ s6 zz => ?_)
  obtain ⟨σ6, H6, I6, q6⟩ := zz
  refine wpAny_passesOwn hp (thn (hb _ s6 σ6 H6 _ I6 q6) fun f s7 q7 => ?_)
  have again : ∀ {σ7 : St} {H7 : Hp}, Inv X (pins ++ Ziu fp s5.heap) σ7 H7 s7 -> N σ7 H7 -> ∃ m, m < n ∧ ∃ i σ' H', Inv X pins σ' H' s7 ∧ tn i s7.heap ∧ (∀ b ∈ fp, H' b = none) ∧ W i m σ' H' := fun {σ7 H7} I7 n7 => by
   obtain ⟨m', hm, w7⟩ := hN σ7 H7 n7
   refine ⟨m', hm, i + 1, σ7, H7, I7.unpinned, T.keep _ _ _ st5 fun b hb o e => (I7.pin (b, o) (List.mem_append_right _ (List.mem_append_right _ (Zcw hb e)))).1, fun b hb => ?_, w7⟩
   obtain ⟨o, e, d⟩ := T.obj _ _ st5 b hb
   exact (I7.pin (b, o) (List.mem_append_right _ (List.mem_append_right _ (Zcw hb e)))).2.1
  cases f with
  | next => obtain ⟨σ7, H7, I7, n7⟩ := q7; exact again I7 n7
  | cont => obtain ⟨σ7, H7, I7, n7⟩ := q7; exact again I7 n7
  | brk => obtain ⟨σ7, H7, I7, q7⟩ := q7; exact ⟨σ7, H7, I7.unpinned, q7⟩
  | ret v => obtain ⟨x7, σ7, H7, I7, r7, q7⟩ := q7; exact ⟨x7, σ7, H7, I7.unpinned, r7, q7⟩
end
noncomputable abbrev R2 := V -> V -> Hp -> VK -> Prop
noncomputable def OpR (X : Cx) (f : Value -> Value -> Sem Value) (r : R2) : Prop :=
 ∀ (pins : List (Addr × Obj)) (s : Shared) (σ : St) (H : Hp) (x y : V) (v u : Value) (Q : VK), Inv X pins σ H s -> Zbv x v -> Zbv y u -> r x y H Q →
  wpAny (model X.prog X.w) X.A (f v u) (EP X pins σ Q) X.xe s
noncomputable def UnR (X : Cx) (f : Value -> Sem Value) (r : V -> Hp -> VK -> Prop) : Prop :=
 ∀ (pins : List (Addr × Obj)) (s : Shared) (σ : St) (H : Hp) (x : V) (v : Value) (Q : VK), Inv X pins σ H s -> Zbv x v -> r x H Q →
  wpAny (model X.prog X.w) X.A (f v) (EP X pins σ Q) X.xe s
noncomputable def Zfl (X : Cx) (f : Value) (r : List V -> Hp -> VK -> Prop) : Prop :=
 ∀ (pins : List (Addr × Obj)) (s : Shared) (σ : St) (H : Hp) (xs : List V) (us : List Value) (Q : VK), Inv X pins σ H s -> Zbf xs us -> r xs H Q →
  wpAny (model X.prog X.w) X.A (call f us) (EP X pins σ Q) X.xe s
noncomputable def TruR (X : Cx) (r : V -> Hp -> (Bool -> Hp -> Prop) -> Prop) : Prop :=
 ∀ (pins : List (Addr × Obj)) (s : Shared) (σ : St) (H : Hp) (x : V) (v : Value) (Q : Bool -> Hp -> Prop), Inv X pins σ H s -> Zbv x v -> r x H Q →
  wpAny (model X.prog X.w) X.A (truthy v) (TP X pins σ Q) X.xe s
noncomputable def tOp (r : R2) (ta tb : TE) : TE := fun σ H Q => ta σ H fun x H1 => tb σ H1 fun y H2 => r x y H2 Q
noncomputable def tUn (r : V -> Hp -> VK -> Prop) (ta : TE) : TE := fun σ H Q => ta σ H fun x H1 => r x H1 Q
noncomputable def rI (C : Int -> Int -> Prop) (g : Int -> Int -> V) : R2 := fun x y H Q => ∃ i j, x = .int i ∧ y = .int j ∧ C i j ∧ Q (g i j) H
noncomputable def rI0 (g : Int -> Int -> V) : R2 := fun x y H Q => ∃ i j, x = .int i ∧ y = .int j ∧ Q (g i j) H
noncomputable def rU (g : Int -> V) : V -> Hp -> VK -> Prop := fun x H Q => ∃ i, x = .int i ∧ Q (g i) H
section
variable {X : Cx} {a b c : Expr} {ta tb tc : TE} {pos : Pos}
theorem binT (ha : PE X a ta) (hb : PE X b tb) {pins : List (Addr × Obj)} {s : Shared} {σ : St} {H : Hp} {R : V -> V -> Hp -> Prop} (I : Inv X pins σ H s)
  (h : ta σ H fun x H1 => tb σ H1 fun y H2 => R x y H2) {Q : Value -> Shared -> Prop} {f : Value -> Value -> Sem Value}
  (hf : ∀ v u s2 x y H2, Inv X pins σ H2 s2 -> Zbv x v -> Zbv y u -> R x y H2 -> wpAny (model X.prog X.w) X.A (f v u) Q X.xe s2) :
  wpAny (model X.prog X.w) X.A (eval a X.env) (fun v s₁ => wpAny (model X.prog X.w) X.A (eval b X.env) (fun u s₂ => wpAny (model X.prog X.w) X.A (f v u) Q X.xe s₂) X.xe s₁) X.xe s := by
 refine thn (ha pins s σ H _ I h) fun v s1 zz => ?_
 obtain ⟨x, H1, I1, r1, q1⟩ := zz
 refine thn (hb pins s1 σ H1 _ I1 q1) fun u s2 zz => ?_
 obtain ⟨y, H2, I2, r2, q2⟩ := zz
 exact hf v u s2 x y H2 I2 r1 r2 q2
theorem pe_op {op : Operator} {r : R2} (ho : OpR X (binaryOp op) r) (ha : PE X a ta) (hb : PE X b tb) : PE X (.BinOp a op b pos) (tOp r ta tb) := by
 intro pins s σ H Q I h
 exact wpAny_BinOp (binT ha hb I h fun v u s2 x y H2 I2 rx ry q => ho pins s2 σ H2 x y v u Q I2 rx ry q)
theorem pe_un {op : UnaryOp} {r : V -> Hp -> VK -> Prop} (ho : UnR X (unaryOp op) r) (ha : PE X a ta) : PE X (.UnaryOp op a pos) (tUn r ta) := by
 intro pins s σ H Q I h
 exact UnaryOp_ (thn (ha pins s σ H _ I h) fun v s1 ⟨x, H1, I1, r1, q1⟩ => ho pins s1 σ H1 x v Q I1 r1 q1)
theorem opI {f : Value -> Value -> Sem Value} {C : Int -> Int -> Prop} {g : Int -> Int -> Int}
  (rule : ∀ (i j : Int) (t u : Tok) (s : Shared) (Q : Value -> Shared -> Prop) (E : Value -> Shared -> Prop), C i j -> Q (.int (g i j) s.toks) { s with toks := s.toks + 1 } -> wpAny (model X.prog X.w) X.A (f (.int i t) (.int j u)) Q E s) :
  OpR X f (rI C fun i j => .int (g i j)) := by
 intro pins s σ H x y v u Q I rx ry h
 obtain ⟨i, j, rfl, rfl, hc, q⟩ := h
 obtain ⟨t, rfl⟩ := rx
 obtain ⟨t', rfl⟩ := ry
 exact rule i j t t' s _ _ hc ⟨.int (g i j), H, I.tok _, ⟨_, rfl⟩, q⟩
theorem opI0 {f : Value -> Value -> Sem Value} {g : Int -> Int -> Int}
  (rule : ∀ (i j : Int) (t u : Tok) (s : Shared) (Q : Value -> Shared -> Prop) (E : Value -> Shared -> Prop), Q (.int (g i j) s.toks) { s with toks := s.toks + 1 } -> wpAny (model X.prog X.w) X.A (f (.int i t) (.int j u)) Q E s) :
  OpR X f (rI0 fun i j => .int (g i j)) := by
 intro pins s σ H x y v u Q I rx ry h
 obtain ⟨i, j, rfl, rfl, q⟩ := h
 obtain ⟨t, rfl⟩ := rx
 obtain ⟨t', rfl⟩ := ry
 exact rule i j t t' s _ _ ⟨.int (g i j), H, I.tok _, ⟨_, rfl⟩, q⟩
theorem opB0 {f : Value -> Value -> Sem Value} {g : Int -> Int -> Bool}
  (rule : ∀ (i j : Int) (t u : Tok) (s : Shared) (Q : Value -> Shared -> Prop) (E : Value -> Shared -> Prop), Q (.bool (g i j)) s -> wpAny (model X.prog X.w) X.A (f (.int i t) (.int j u)) Q E s) :
  OpR X f (rI0 fun i j => .bl (g i j)) := by
 intro pins s σ H x y v u Q I rx ry h
 obtain ⟨i, j, rfl, rfl, q⟩ := h
 obtain ⟨t, rfl⟩ := rx
 obtain ⟨t', rfl⟩ := ry
 exact rule i j t t' s _ _ ⟨.bl (g i j), H, I, rfl, q⟩
noncomputable def Zw3 (i j : Int) : Prop := 0 < j ∧ j < 1073741824
noncomputable def Zx5 (i j : Int) : Prop := 0 ≤ j ∧ j ≤ 1000000 ∧ i.natAbs < 2 ^ 64
noncomputable def Zqo (i j : Int) : Prop := (-(2 ^ 64) < i ∧ i < 2 ^ 64) ∨ (-(2 ^ 64) < j ∧ j < 2 ^ 64)
theorem Zqo.ok {i j : Int} (h : Zqo i j) : IntMulOk i j := by
 rcases h with ⟨h1, h2⟩ | ⟨h1, h2⟩
 ·exact .of_left (intBits_le_64 h1 h2)
 ·exact .of_right (intBits_le_64 h1 h2)
theorem Zzv : OpR X (binaryOp .Add) (rI0 fun i j => .int (i + j)) := opI0 fun _ _ _ _ _ _ _ q => add_int q
theorem Zzl : OpR X (binaryOp .Sub) (rI0 fun i j => .int (i - j)) := opI0 fun _ _ _ _ _ _ _ q => sub_int q
theorem Zyw : OpR X (binaryOp .Mult) (rI Zqo fun i j => .int (i * j)) := opI fun _ _ _ _ _ _ _ hc q => mul_int q hc.ok
theorem Zve : OpR X (binaryOp .FloorDiv) (rI Zw3 fun i j => .int (i / j)) := opI fun i j _ _ _ _ _ hc q => by
 have h1 : (0 : Int) < j := hc.1
 have h2 : j < 1073741824 := hc.2
 exact floordiv_int (by omega) (by rw [Int.fdiv_eq_ediv_of_nonneg i (by omega)]; exact q) (.inl (PyProof.noPylong_small (by omega)))
theorem Zym : OpR X (binaryOp .Mod) (rI (fun _ j => 0 < j) fun i j => .int (i % j)) := opI fun i j _ _ _ _ _ hc q => by
 have h1 : (0 : Int) < j := hc
 exact mod_int' (by omega) (by rw [Int.fmod_eq_emod_of_nonneg i (by omega)]; exact q)
theorem Zzn : OpR X (binaryOp .Pow) (rI Zx5 fun i j => .int (i ^ j.toNat)) := opI fun _ _ _ _ _ _ _ hc q => pow_int_small hc.1 hc.2.1 hc.2.2 q
theorem unI {f : Value -> Sem Value} {g : Int -> Int}
  (rule : ∀ (i : Int) (t : Tok) (s : Shared) (Q : Value -> Shared -> Prop) (E : Value -> Shared -> Prop), Q (.int (g i) s.toks) { s with toks := s.toks + 1 } -> wpAny (model X.prog X.w) X.A (f (.int i t)) Q E s) :
  UnR X f (rU fun i => .int (g i)) := by
 intro pins s σ H x v Q I rx h
 obtain ⟨i, rfl, q⟩ := h
 obtain ⟨t, rfl⟩ := rx
 exact rule i t s _ _ ⟨.int (g i), H, I.tok _, ⟨_, rfl⟩, q⟩
theorem Zz2 : UnR X (unaryOp .USub) (rU fun i => .int (-i)) := unI fun _ _ _ _ _ q => neg_int q
end
section
variable {X : Cx} {a b c : Expr} {ta tb tc : TE} {pos : Pos}
theorem op_lt : OpR X (compareOp .Lt) (rI0 fun i j => .bl (decide (i < j))) := opB0 fun _ _ _ _ _ _ _ q => lt_int q
theorem op_le : OpR X (compareOp .LtE) (rI0 fun i j => .bl (decide (i ≤ j))) := opB0 fun _ _ _ _ _ _ _ q => le_int q
theorem op_gt : OpR X (compareOp .Gt) (rI0 fun i j => .bl (decide (j < i))) := opB0 fun _ _ _ _ _ _ _ q => gt_int q
theorem op_ge : OpR X (compareOp .GtE) (rI0 fun i j => .bl (decide (j ≤ i))) := opB0 fun _ _ _ _ _ _ _ q => ge_int q
theorem Zat (b : Expr) {op : CmpOp} (h : op ≠ .In := by decide) (h2 : op ≠ .NotIn := by decide) : behindInMarks op b = false := by
 have e1 : (op == CmpOp.In) = false := by cases op <;> first | rfl | exact absurd rfl h
 have e2 : (op == CmpOp.NotIn) = false := by cases op <;> first | rfl | exact absurd rfl h2
 cases b <;> simp [behindInMarks, e1, e2]
theorem Zwo {op : CmpOp} {r : R2} (ho : OpR X (compareOp op) r) (ha : PE X a ta) (hb : PE X b tb) (hm : behindInMarks op b = false) : PE X (.Compare a [op] [b] pos) (tOp r ta tb) := by
 intro pins s σ H Q I h
 exact wpAny_Compare1 (binT ha hb I h fun v u s2 x y H2 I2 rx ry q => ho pins s2 σ H2 x y v u Q I2 rx ry q) hm
noncomputable def tTest (t : TE) : TT := fun σ H Q => t σ H fun x H' => ∃ k, x = .bl k ∧ Q k H'
theorem Zv4 {op : CmpOp} {r : R2} (ho : OpR X (compareOp op) r) (ha : PE X a ta) (hb : PE X b tb) (hm : behindInMarks op b = false) : PT X (.Compare a [op] [b] pos) (tTest (tOp r ta tb)) := by
 intro pins s σ H Q I h
 refine wpAny_isTrue_Compare1 (thn (ha pins s σ H _ I h) fun v s1 ⟨x, H1, I1, r1, q1⟩ => thn (hb pins s1 σ H1 _ I1 q1) fun u s2 ⟨y, H2, I2, r2, q2⟩ =>
  thn (ho pins s2 σ H2 x y v u _ I2 r1 r2 q2) fun c s3 ⟨z, H3, I3, r3, k, e, q3⟩ => ?_) hm
 subst e
 cases r3
 exact wpAny_truthy_bool ⟨H3, I3, q3⟩
noncomputable def TruV (K : PySem.W.Frag) (x : V) (H : Hp) (k : Bool) : Prop :=
 match x with
 | .non => k = false
 | .bl b => k = b
 | .int i => k = (i != 0)
 | .str y => y.length ≤ sizeLine ∧ k = ((y.length : Int) != 0)
 | .byt y => y.size ≤ sizeLine ∧ k = ((y.size : Int) != 0)
 | .ref p => (∃ xs, SqL K H p xs ∧ k = !xs.isEmpty) ∨ (∃ xs, SqT K H p xs ∧ k = !xs.isEmpty) ∨ ∃ kvs, H p = some (.dK kvs) ∧ k = !kvs.isEmpty
 | _ => False
theorem Zoo {κ : Type} {kvs : List (κ × V)} {vs : List (κ × Value)} (r : KV kvs vs) : (!vs.isEmpty) = !kvs.isEmpty := by
 cases r <;> rfl
theorem Zir {xs : List V} {its : List Value} (r : Zbf xs its) : (!its.toArray.isEmpty) = !xs.isEmpty := by
 cases r <;> simp
theorem Ziq : (sizeLine : Nat) < 2 ^ 63 := by rw [sizeLine_eq]; decide
theorem Zz8 : TruR X (fun x H Q => ∃ k, TruV X.K x H k ∧ Q k H) := by
 intro pins s σ H x v Q I rx h
 obtain ⟨k, e, q⟩ := h
 have hl := Ziq
 have hs : sizeLine = 16777216 := sizeLine_eq
 cases x with
 | non =>
  cases rx
  have e' : k = false := e
  subst e'
  exact truthy_none ⟨H, I, q⟩
 | bl b =>
  cases rx
  have e' : k = b := e
  subst e'
  exact wpAny_truthy_bool ⟨H, I, q⟩
 | int i =>
  obtain ⟨t, rfl⟩ := rx
  have e' : k = (i != 0) := e
  subst e'
  exact PySem.P.truthy_int ⟨H, I, q⟩
 | str y =>
  obtain ⟨t, rfl⟩ := rx
  obtain ⟨hy, e'⟩ : y.length ≤ sizeLine ∧ k = ((y.length : Int) != 0) := e
  subst e'
  exact PySem.P.truthy_str (by omega) ⟨H, I.tok _, q⟩
 | byt y =>
  obtain ⟨t, rfl⟩ := rx
  obtain ⟨hy, e'⟩ : y.size ≤ sizeLine ∧ k = ((y.size : Int) != 0) := e
  subst e'
  exact PySem.W.truthy_bytes (by omega) ⟨H, I.tok _, q⟩
 | ref p =>
  cases rx
  have e' : (∃ xs, SqL X.K H p xs ∧ k = !xs.isEmpty) ∨ (∃ xs, SqT X.K H p xs ∧ k = !xs.isEmpty) ∨ ∃ kvs, H p = some (.dK kvs) ∧ k = !kvs.isEmpty := e
  rcases e' with ⟨xs, hx, e'⟩ | ⟨xs, hx, e'⟩ | ⟨kvs, hx, e'⟩
  ·subst e'
   obtain ⟨its, r, pl, hz⟩ := I.list hx
   have hlen := r.length
   exact wpAny_truthy_list pl.isList (by simp only [List.size_toArray]; omega) ⟨H, I.tok _, by rw [Zir r]; exact q⟩
  ·subst e'
   obtain ⟨its, r, pl, hz⟩ := I.tuple hx
   have hlen := r.length
   exact truthy_tuple pl (by simp only [List.size_toArray]; omega) ⟨H, I.tok _, by rw [Zir r]; exact q⟩
  ·subst e'
   obtain ⟨hz, hS, vs, r, m⟩ : kvs.length ≤ sizeLine ∧ (p == sysModules) = false ∧ ∃ vs, KV kvs vs ∧ s.heap.DictOf (Zmy X.prog X.w) p vs := I.hok p _ hx
   have hlen : kvs.length = vs.length := Paired.length r
   exact wpAny_truthy_dict hS m (by omega) ⟨H, I.tok _, by rw [Zoo r]; exact q⟩
 | _ => exact (show False from e).elim
theorem Ztx (ha : PE X a ta) (he : ∀ whole, isTrue a X.env whole = (do let v ← whole; standAt a.pos; holding [v] (truthy v))) :
  PT X a (fun σ H Q => ta σ H fun x H' => ∃ k, TruV X.K x H' k ∧ Q k H') := by
 intro pins s σ H Q I h
 exact isTrue_plain (thn (ha pins s σ H _ I h) fun v s1 ⟨x, H1, I1, r1, q1⟩ => Zz8 pins s1 σ H1 x v Q I1 r1 q1) (he _)
theorem Zn6 : OpR X (binaryOp .Add) (fun x y H Q => ∃ i j, x = .str i ∧ y = .str j ∧ i.length + j.length ≤ sizeLine ∧ Q (.str (i ++ j)) H) := by
 intro pins s σ H x y v u Q I rx ry h
 obtain ⟨i, j, rfl, rfl, hz, q⟩ := h
 obtain ⟨t, rfl⟩ := rx
 obtain ⟨t', rfl⟩ := ry
 exact add_str (fun t' tk => ⟨.str (i ++ j), H, I.tok _, ⟨_, rfl⟩, q⟩) hz
theorem Zg0 {x : V} {us : List Value} (r : Zbf [x] us) : ∃ u, us = [u] ∧ Zbv x u := by
 cases r with
 | cons r1 r2 => cases r2; exact ⟨_, rfl, r1⟩
theorem Zp5 {x y : V} {us : List Value} (r : Zbf [x, y] us) : ∃ u w', us = [u, w'] ∧ Zbv x u ∧ Zbv y w' := by
 cases r with
 | cons r1 r2 =>
  cases r2 with
  | cons r3 r4 => cases r4; exact ⟨_, _, rfl, r1, r3⟩
theorem Zt7 : Zfl X (.builtin "abs") (fun xs H Q => ∃ i, xs = [.int i] ∧ Q (.int (if i < 0 then -i else i)) H) := by
 intro pins s σ H xs us Q I r h
 obtain ⟨i, rfl, q⟩ := h
 obtain ⟨u, rfl, t, rfl⟩ := Zg0 r
 exact call_abs_int fun u tk => ⟨.int (if i < 0 then -i else i), H, I.tok _, ⟨_, rfl⟩, q⟩
theorem Zra (hc : X.calm = true) : Zfl X (.builtin "max") (fun xs H Q => ∃ i j, xs = [.int i, .int j] ∧ Q (.int (if j > i then j else i)) H) := by
 intro pins s σ H xs us Q I r h
 obtain ⟨i, j, rfl, q⟩ := h
 obtain ⟨u, w', rfl, ⟨t, rfl⟩, ⟨t', rfl⟩⟩ := Zp5 r
 refine max_two_ints (I.ok.hd hc) fun h' tk k => ⟨_, H, I.kept k, ?_, q⟩
 by_cases hj : j > i
 ·rw [if_pos hj, if_pos hj]; exact ⟨_, rfl⟩
 ·rw [if_neg hj, if_neg hj]; exact ⟨_, rfl⟩
theorem Zr6 (hc : X.calm = true) : Zfl X (.builtin "min") (fun xs H Q => ∃ i j, xs = [.int i, .int j] ∧ Q (.int (if j < i then j else i)) H) := by
 intro pins s σ H xs us Q I r h
 obtain ⟨i, j, rfl, q⟩ := h
 obtain ⟨u, w', rfl, ⟨t, rfl⟩, ⟨t', rfl⟩⟩ := Zp5 r
 refine min_two_ints (I.ok.hd hc) fun h' tk k => ⟨_, H, I.kept k, ?_, q⟩
 by_cases hj : j < i
 ·rw [if_pos hj, if_pos hj]; exact ⟨_, rfl⟩
 ·rw [if_neg hj, if_neg hj]; exact ⟨_, rfl⟩
theorem Zlc : Zfl X (.type "int") (fun xs H Q => (∃ i, xs = [.int i] ∧ Q (.int i) H) ∨ ∃ k, xs = [.bl k] ∧ Q (.int (if k then 1 else 0)) H) := by
 intro pins s σ H xs us Q I r h
 rcases h with ⟨i, rfl, q⟩ | ⟨k, rfl, q⟩
 ·obtain ⟨u, rfl, t, rfl⟩ := Zg0 r
  exact call_int_int ⟨.int i, H, I, ⟨_, rfl⟩, q⟩
 ·obtain ⟨u, rfl, r1⟩ := Zg0 r
  cases r1
  exact call_int_bool ⟨.int (if k then 1 else 0), H, I.tok _, ⟨_, rfl⟩, q⟩
end
structure ObjM (h : Heap) (x dx C : Addr) (mA : Str -> Option Value) : Prop where
 obj : h.get? x = some (PySem.W.instObj C dx)
 ns : h.Ns1 dx mA
 ne : dx ≠ x
theorem Zpo {h : Heap} {dx : Addr} {mA : Str -> Option Value} (n : h.Ns1 dx mA) : ∃ od, h.get? dx = some od ∧ ∀ name, PySem.W.lookIn name od = some (mA name) := by
 obtain ⟨o, es, ep, ho, hd, hk, _, hm⟩ := n
 refine ⟨o, ho, fun name => ?_⟩
 have e := hm name
 unfold nsFind findBy at e
 rw [← Array.find?_toList] at e
 unfold PySem.W.lookIn
 rw [hd]
 dsimp only
 split
 ·rename_i y q
  rw [q] at e
  exact congrArg some e
 ·rename_i q
  rw [q] at e
  have a : es.toList.any (·.refKey) = false := by
   rw [List.any_eq_false]
   intro y hy
   obtain ⟨z, t, hkey⟩ := hk y (Array.mem_toList_iff.mp hy)
   simp [DictEntry.refKey, hkey]
  have a' : ¬ es.toList.any (·.refKey) = true := by rw [a]; exact Bool.false_ne_true
  rw [if_neg a']
  exact congrArg some e
theorem ObjM.look {h : Heap} {x dx C : Addr} {mA : Str -> Option Value} (I : ObjM h x dx C mA) : ∃ od, PySem.W.InstAt h x (PySem.W.instObj C dx) C (some od) ∧ ∀ name, PySem.W.lookIn name od = some (mA name) :=
 let ⟨od, ho, hl⟩ := Zpo I.ns
 ⟨od, ⟨I.obj, rfl, rfl, ho⟩, hl⟩
section
variable {prog : Program} {w : World} {A : Around} {E : Value -> Shared -> Prop} {s : Shared} {K : PySem.W.Frag} {x dx C f : Addr} {mA : Str -> Option Value} {name : Str} {v : Value}
theorem Zvz {expr : Bool} {Q : Value -> Shared -> Prop} (X : K.In s.heap) (I : ObjM s.heap x dx C mA) (hg : PySem.W.plainGet K C name = true) (hh : PySem.W.hasDictIn K C = true)
  (ha : PySem.W.findIn K (.ref C) name = some none) (hv : mA name = some v) (hv' : PySem.W.handedIn v = true) (h : Q v { s with toks := s.toks + 1 }) :
  wpAny (model prog w) A (getAttr (.ref x) name expr) Q E s := by
 obtain ⟨od, J, hl⟩ := I.look
 exact PySem.W.get_value X J (PySem.W.plainGet_of hg).1 (PySem.W.findObj_own hh ha rfl (by rw [hl, hv])) hv' h
theorem Zt3 {pl : Sem Bool} {Q : Value × List Value -> Shared -> Prop} (X : K.In s.heap) (I : ObjM s.heap x dx C mA) (hg : PySem.W.plainGet K C name = true)
  (hf : PySem.W.findIn K (.ref C) name = some (some (.ref f))) (ht : PySem.W.isFn K (.ref f) = true) (hv : mA name = none) (h : Q (.ref f, [.ref x]) s) :
  wpAny (model prog w) A (getMethod (.ref x) name pl) Q E s := by
 obtain ⟨od, J, hl⟩ := I.look
 exact PySem.W.method_fn X J (PySem.W.plainGet_of hg).1 (PySem.W.plainGet_of hg).2 hf (beq_iff_eq.mp ht) (by show (PySem.W.lookIn name od).map (·.isSome) = some false; rw [hl, hv]; rfl) h
theorem Zvd {ns : List Str} {Q : Unit -> Shared -> Prop} (X : K.In s.heap) (I : ObjM s.heap x dx C mA)
  (hs : PySem.W.findIn K (.ref C) "__setattr__" = some (some (.builtin "object.__setattr__"))) (hp : PySem.W.plainOver K C = true) (ht : PySem.W.takerIn K C name = some none) (hh : PySem.W.hasDictIn K C = true)
  (hw : PySem.Within mA ns) (hsz : ns.length ≤ sizeLine)
  (h : ∀ h', ObjM h' x dx C (fun y => if y = name then some v else mA y) -> Heap.SameBut dx s.heap h' -> Q () { s with heap := h', toks := s.toks + 2 }) :
  wpAny (model prog w) A (setAttr (.ref x) name v) Q E s := by
 obtain ⟨od, J, hl⟩ := I.look
 refine PySem.W.set_plain X J hs (PySem.W.osa_open (s := { s with toks := s.toks + 1 }) (r := none) X J hp ht fun b => ?_)
 obtain ⟨cd, hc, hd'⟩ := PySem.W.any_some hh
 have hx : s.heap.get? x = some ⟨.ref C, some dx, .plain, #[]⟩ := I.obj
 refine wpAny_bind (wpAny_pure (wpAny_bind (wpAny_bind (wpAny_loadPart hx (wpAny_bind (PySem.W.Looks.here (s := { s with toks := s.toks + 1 }) (PySem.W.looks_clsIn X hc) ?_))))))
 rw [hd']
 refine wpAny_pure (a := some dx) (wpAny_bind (wpAny_pure (wpAny_bind ?_)))
 refine wpAny_nsSet1 (s := { s with toks := s.toks + 1 }) I.ns fun h' hn2 hs2 => ?_
 obtain ⟨oD, esD, epD, hoD, hdD, hcD⟩ := hn2.count (PySem.Within.cons name v hw)
 refine wpAny_bind (wpAny_lookBehind hoD (by rw [hdD]; exact pastItsLine_dict (Nat.le_trans hcD (by rw [List.length_cons]; omega))) ?_)
 exact wpAny_pure (h _ ⟨(hs2.2 _ (Ne.symm I.ne)).trans I.obj, hn2, I.ne⟩ hs2)
theorem Ztl {R : Result -> Shared -> Prop} {vs : List Value} {kw : List (Str × Value)} (X : K.In s.heap) (hm : PySem.W.makesIn K C = true)
  (hi : PySem.W.findIn K (.ref C) "__init__" = some (some (.ref f))) (hf : PySem.W.typeIn K (.ref f) = some (.type "function"))
  (h : codeAny (model prog w) (A.under (.builtin "type.__call__" ⟨.ref C :: vs, kw⟩)) (.call (.ref f) ⟨.ref (s.heap.objs.size + 1) :: vs, kw⟩) (PySem.W.InitBack (s.heap.objs.size + 1) R)
   { s with heap := (s.heap.push PySem.W.emptyDict).push (PySem.W.instObj C s.heap.objs.size) }) :
  codeAny (model prog w) A (.call (.ref C) ⟨vs, kw⟩) R s := by
 obtain ⟨hh, g, d, t, os⟩ := s
 exact PySem.W.make_core (PySem.W.makes_of X hm) (PySem.W.looks_findIn X hi) (fun self => PySem.W.bind_fn X self hf) (.inl rfl) h
end
noncomputable def Zii (f : Str) (v : V) : List (Str × V) -> List (Str × V)
 | [] => [(f, v)]
 | (g, x) :: r => if g = f then (g, v) :: r else (g, x) :: Zii f v r
theorem Zhs (f g : Str) (v : V) : ∀ fs : List (Str × V), (Zii f v fs).lookup g = if g = f then some v else fs.lookup g
 | [] => by
  show List.lookup g [(f, v)] = _
  by_cases h : g = f
  ·have hb : (g == f) = true := beq_iff_eq.mpr h
   simp only [List.lookup, hb, if_pos h]
  ·have hb : (g == f) = false := beq_eq_false_iff_ne.mpr h
   simp only [List.lookup, hb, if_neg h]
 | (k, x) :: r => by
  have ih := Zhs f g v r
  rw [show Zii f v ((k, x) :: r) = (if k = f then (k, v) :: r else (k, x) :: Zii f v r) from rfl]
  by_cases hk : k = f
  ·rw [if_pos hk]
   by_cases h : g = k
   ·have hb : (g == k) = true := beq_iff_eq.mpr h
    simp only [List.lookup, hb, if_pos (h.trans hk)]
   ·have hb : (g == k) = false := beq_eq_false_iff_ne.mpr h
    simp only [List.lookup, hb, if_neg (fun e : g = f => h (e.trans hk.symm))]
  ·rw [if_neg hk]
   by_cases h : g = k
   ·have hb : (g == k) = true := beq_iff_eq.mpr h
    simp only [List.lookup, hb, if_neg (fun e : g = f => hk (h.symm.trans e))]
   ·have hb : (g == k) = false := beq_eq_false_iff_ne.mpr h
    simp only [List.lookup, hb]
    exact ih
theorem Zh5 (f : Str) (v : V) : ∀ fs : List (Str × V), f ∈ (Zii f v fs).map (·.1) ∧ ∀ g, g ∈ fs.map (·.1) -> g ∈ (Zii f v fs).map (·.1)
 | [] => ⟨by simp [Zii], fun g h => by simp at h⟩
 | (k, x) :: r => by
  obtain ⟨i1, i2⟩ := Zh5 f v r
  rw [show Zii f v ((k, x) :: r) = (if k = f then (k, v) :: r else (k, x) :: Zii f v r) from rfl]
  by_cases hk : k = f
  ·rw [if_pos hk]
   subst hk
   exact ⟨by simp, fun g h => by simpa using h⟩
  ·rw [if_neg hk]
   refine ⟨?_, fun g h => ?_⟩
   ·rw [List.map_cons]
    exact List.mem_cons_of_mem _ i1
   ·rw [List.map_cons] at h ⊢
    rcases List.mem_cons.mp h with e | e
    ·exact List.mem_cons.mpr (.inl e)
    ·exact List.mem_cons_of_mem _ (i2 g e)
theorem Zic (f : Str) (v : V) : ∀ fs : List (Str × V), (Zii f v fs).length ≤ fs.length + 1
 | [] => by simp [Zii]
 | (k, x) :: r => by
  have ih := Zic f v r
  rw [show Zii f v ((k, x) :: r) = (if k = f then (k, v) :: r else (k, x) :: Zii f v r) from rfl]
  by_cases hk : k = f
  ·rw [if_pos hk, List.length_cons, List.length_cons]; omega
  ·rw [if_neg hk, List.length_cons, List.length_cons]; omega
theorem Zsa.some_of {v : V} {o : Option Value} (r : Zsa (some v) o) : ∃ u, o = some u ∧ Zbv v u := by
 cases o with
 | none => exact (show False from r).elim
 | some u => exact ⟨u, rfl, r⟩
theorem Zsa.none_of {o : Option Value} (r : Zsa none o) : o = none := by
 cases o with
 | none => rfl
 | some u => exact (show False from r).elim
theorem Zp7 {v : V} {u : Value} (r : Zbv v u) : PySem.W.handedIn u = true := by
 cases v with
 | non => cases (show u = Value.none from r); rfl
 | bl b => cases (show u = Value.bool b from r); rfl
 | int i => obtain ⟨t, e⟩ := (show ∃ t, u = Value.int i t from r); cases e; rfl
 | str x => obtain ⟨t, e⟩ := (show ∃ t, u = Value.str x t from r); cases e; rfl
 | byt b => obtain ⟨t, e⟩ := (show ∃ t, u = Value.bytes b t from r); cases e; rfl
 | flt b => obtain ⟨t, e⟩ := (show ∃ t, u = Value.float b t from r); cases e; rfl
 | ref a => cases (show u = Value.ref a from r); rfl
 | ty n => cases (show u = Value.type n from r); rfl
section
variable {P : Program} {w : World} {H H' : Hp} {h h' : Heap} {a C dx : Addr} {fs fs' : List (Str × V)}
theorem Zme (hok : HOk P w H h) (e : H a = some (.ins C dx fs)) : ∃ mA, ObjM h a dx C mA ∧ (∀ f, Zsa (fs.lookup f) (mA f)) ∧ PySem.Within mA (fs.map (·.1)) ∧ fs.length ≤ 1000 ∧ H dx = some (.own a) := by
 obtain ⟨d, z, ne, ob, mA, n, r, q⟩ := (show Zcr P w H h a (.ins C dx fs) from hok a _ e)
 exact ⟨mA, ⟨ob, n, ne⟩, r, q, z, d⟩
end
structure Cls (K : PySem.W.Frag) (C : Addr) : Prop where
 pg : PySem.W.plainGet K C Str.empty = true
 hd : PySem.W.hasDictIn K C = true
 po : PySem.W.plainOver K C = true
 sa : PySem.W.findIn K (.ref C) "__setattr__" = some (some (.builtin "object.__setattr__"))
theorem Cls.get {K : PySem.W.Frag} {C : Addr} (c : Cls K C) (f : Str) : PySem.W.plainGet K C f = true := c.pg
noncomputable def Zgl (K : PySem.W.Frag) (C : Addr) (f : Str) : Prop := PySem.W.findIn K (.ref C) f = some none
theorem Zgl.taker {K : PySem.W.Frag} {C : Addr} {f : Str} (n : Zgl K C f) : PySem.W.takerIn K C f = some none := by
 unfold PySem.W.takerIn
 rw [show PySem.W.findIn K (.ref C) f = some none from n]
 rfl
structure Meth (K : PySem.W.Frag) (C : Addr) (m : Str) (f : Addr) : Prop where
 at_ : PySem.W.findIn K (.ref C) m = some (some (.ref f))
 fn : PySem.W.isFn K (.ref f) = true
 kp : PySem.W.keepIn K (.ref f) = true
section
variable {X : Cx} {pins : List (Addr × Obj)} {σ : St} {H : Hp} {s : Shared} {a C dx : Addr} {fs : List (Str × V)} {f : Str} {v : V} {A : Around} {E : Value -> Shared -> Prop}
theorem Zor {b : Bool} {Q : Value -> Shared -> Prop} (I : Inv X pins σ H s) (e : H a = some (.ins C dx fs)) (c : Cls X.K C) (n : Zgl X.K C f) (l : fs.lookup f = some v)
  (h : ∀ u s', Inv X pins σ H s' -> Zbv v u -> Q u s') : wpAny (model X.prog X.w) A (getAttr (.ref a) f b) Q E s := by
 obtain ⟨mA, O, r, _, _, _⟩ := Zme I.hok e
 obtain ⟨u, hu, ru⟩ := Zsa.some_of (v := v) (o := mA f) (by rw [← l]; exact r f)
 exact Zvz I.kIn O (c.get f) c.hd n hu (Zp7 ru) (h u _ (I.tok _) ru)
theorem Zew {m : Str} {g : Addr} {pl : Sem Bool} {Q : Value × List Value -> Shared -> Prop} (I : Inv X pins σ H s) (e : H a = some (.ins C dx fs)) (c : Cls X.K C) (k : Meth X.K C m g) (l : fs.lookup m = none)
  (h : Q (.ref g, [.ref a]) s) : wpAny (model X.prog X.w) A (getMethod (.ref a) m pl) Q E s := by
 obtain ⟨mA, O, r, _, _, _⟩ := Zme I.hok e
 have hn : mA m = none := Zsa.none_of (by rw [← l]; exact r m)
 exact Zt3 I.kIn O (c.get m) k.at_ k.fn hn h
theorem Zoh {y : V} {u : Value} {Q : Unit -> Shared -> Prop} (I : Inv X pins σ H s) (e : H a = some (.ins C dx fs)) (c : Cls X.K C) (n : Zgl X.K C f) (hl : fs.length < 1000) (ry : Zbv y u)
  (h : ∀ s', Inv X pins σ (upd H a (.ins C dx (Zii f y fs))) s' -> Q () s') : wpAny (model X.prog X.w) A (setAttr (.ref a) f u) Q E s := by
 obtain ⟨mA, O, r, wi, _, ho⟩ := Zme I.hok e
 have hz : (fs.map (·.1)).length ≤ sizeLine := by rw [List.length_map, sizeLine_eq]; omega
 refine Zvd I.kIn O c.sa c.po n.taker c.hd wi hz fun h' O' sb => h _ ?_
 have hd : ∃ o, h'.get? dx = some o := let ⟨o, _, _, e', _⟩ := O'.ns; ⟨o, e'⟩
 refine I.write (x := a) (e := dx) (by rw [e]; exact True.intro) (.inr ho) (fun b q hb z => (sb.2 b hb).trans z) hd ?_
 refine ⟨by rw [Zak O.ne]; exact ho, ?_, O.ne, O'.obj, _, O'.ns, fun g => ?_, fun g hg => ?_⟩
 ·have := Zic f y fs; omega
 ·show Zsa ((Zii f y fs).lookup g) (if g = f then some u else mA g)
  rw [Zhs]
  by_cases q : g = f
  ·rw [if_pos q, if_pos q]; exact ry
  ·rw [if_neg q, if_neg q]; exact r g
 ·by_cases q : g = f
  ·rw [q]; exact (Zh5 f y fs).1
  ·refine (Zh5 f y fs).2 g (wi g fun z => hg ?_)
   show (if g = f then some u else mA g) = none
   rw [if_neg q]; exact z
theorem Inv.made (I : Inv X pins σ H s) : Inv X pins σ (upd (upd H s.heap.objs.size (.own (s.heap.objs.size + 1))) (s.heap.objs.size + 1) (.ins C s.heap.objs.size []))
  { s with heap := (s.heap.push PySem.W.emptyDict).push (PySem.W.instObj C s.heap.objs.size) } := by
 have e1 : (s.heap.push PySem.W.emptyDict).get? s.heap.objs.size = some PySem.W.emptyDict := Heap.get?_push_size s.heap rfl
 have e2 : ((s.heap.push PySem.W.emptyDict).push (PySem.W.instObj C s.heap.objs.size)).get? (s.heap.objs.size + 1) = some (PySem.W.instObj C s.heap.objs.size) := by
  have := Heap.get?_push_size (s.heap.push PySem.W.emptyDict) (o := PySem.W.instObj C s.heap.objs.size) rfl
  rwa [Heap.size_push] at this
 have e3 : (s.heap.push PySem.W.emptyDict).Ns s.heap.objs.size (fun _ => none) := ⟨PySem.W.emptyDict, #[], _, e1, rfl, (fun e he => absurd he (by simp)), fun _ => rfl⟩
 have I1 := I.laid (a := s.heap.objs.size) (o := .own (s.heap.objs.size + 1)) (h' := s.heap.push PySem.W.emptyDict) (t' := s.toks) (fun b u q => Heap.get?_push_of_some _ q) (Nat.le_refl _) ⟨_, e1⟩
 refine I1.laid (a := s.heap.objs.size + 1) (o := .ins C s.heap.objs.size []) (t' := s.toks) (fun b u q => Heap.get?_push_of_some _ q) (Nat.le_of_eq (Heap.size_push _ _)) ?_
 have ne : s.heap.objs.size ≠ s.heap.objs.size + 1 := Nat.ne_of_lt (Nat.lt_succ_self _)
 refine ⟨by rw [Zak ne, Zaq], Nat.zero_le _, ne, e2, fun _ => none, (Heap.Ns1.of_empty e3).at fun o q => Heap.get?_push_of_some _ q, fun _ => True.intro, fun y hy => absurd rfl hy⟩
theorem Zvk {prog : Program} {w : World} {env : Env} {e : Expr} {f : Str} {pos : Pos} {s : Shared} {Q : Value -> Shared -> Prop} (hb : attributeBase e f env (eval e env) = eval e env)
  (h : wpAny (model prog w) A (eval e env) (fun o s₁ => wpAny (model prog w) A (getAttr o f true) Q E s₁) E s) : wpAny (model prog w) A (eval (.Attribute e f pos) env) Q E s :=
 Attribute_any_ h (by rw [arm_eval_Attribute, hb])
end
noncomputable def tFld (K : PySem.W.Frag) (ta : TE) (f : Str) : TE := fun σ H Q => ta σ H fun x H1 => ∃ a C dx fs v, x = .ref a ∧ H1 a = some (.ins C dx fs) ∧ Cls K C ∧ Zgl K C f ∧ fs.lookup f = some v ∧ Q v H1
noncomputable def sFld (K : PySem.W.Frag) (ta tv : TE) (f : Str) : TS := fun D σ H => tv σ H fun y H1 => ta σ H1 fun x H2 => ∃ a C dx fs, x = .ref a ∧ H2 a = some (.ins C dx fs) ∧ Cls K C ∧ Zgl K C f ∧ fs.length < 1000 ∧
 D.nx σ (upd H2 a (.ins C dx (Zii f y fs)))
section
variable {X : Cx} {o e value : Expr} {f : Str} {pos pos' tpos : Pos} {ta tv : TE}
theorem Yai (he : PE X e ta) (hb : attributeBase e f X.env (eval e X.env) = eval e X.env) : PE X (.Attribute e f pos) (tFld X.K ta f) := by
 intro pins s σ H Q I h
 refine Zvk hb (thn (he pins s σ H _ I h) fun u s1 zz => ?_)
 obtain ⟨x, H1, I1, rx, a, C, dx, fs, v, ex, ea, c, n, l, q⟩ := zz
 subst ex
 obtain rfl : u = Value.ref a := rx
 exact Zor I1 ea c n l fun u' s2 I2 ru => ⟨v, H1, I2, ru, q⟩
theorem Zyz (ha : PE X o ta) (hv : PE X value tv) (hs : swapsWith value (some (.Attribute o f pos')) pos.line X.env = pure false) : PS X (.Assign [.Attribute o f pos'] value pos) (sFld X.K ta tv f) := by
 intro pins s σ H D I h
 refine plainObj_wpAny_Assign_Attribute (thn (hv pins s σ H _ I h) fun u s1 ⟨y, H1, I1, ry, q⟩ => thn (ha pins s1 σ H1 _ I1 q) fun ov s2 ⟨x, H2, I2, rx, a, C, dx, fs, ex, ea, c, n, l, q2⟩ => ?_) hs
 subst ex
 obtain rfl : ov = Value.ref a := rx
 exact Zoh I2 ea c n l ry fun s3 I3 => ⟨σ, _, I3, q2⟩
end
structure Room (k : Nat) (A : Around) : Prop where
 hd : A.handled = none
 dp : A.depth + 3 * k + 5 < recursionLimit
 un : A.units + 16 * k + 200 < cLine
 gd : A.guards = some []
theorem Room.mono {j k : Nat} {A : Around} (r : Room k A) (h : j ≤ k) : Room j A := ⟨r.hd, by have := r.dp; omega, by have := r.un; omega, r.gd⟩
theorem Room.deeper {k : Nat} {A : Around} (r : Room (k + 1) A) (env : Env) : Room k (A.deeper env) :=
 ⟨r.hd, by have := r.dp; show A.depth + 1 + 3 * k + 5 < _; omega, by have := r.un; show A.units + 3 + 16 * k + 200 < _; omega, r.gd⟩
theorem Zof {A : Around} {C : Addr} {us : List Value} {kw : List (Str × Value)} : (A.under (.builtin "type.__call__" ⟨.ref C :: us, kw⟩)).depth = A.depth + 1 := by
 first | rfl | simp [Around.under, Code.weight, Code.isCreation, Code.isGuard, Code.isCaller, Code.frames, Code.isFrame, guardIds]
theorem Zow {A : Around} {C : Addr} {us : List Value} {kw : List (Str × Value)} : (A.under (.builtin "type.__call__" ⟨.ref C :: us, kw⟩)).units = A.units + 1 := by
 first | rfl | simp [Around.under, Code.cUnits, Code.frames, Code.isFrame]
theorem Room.make {k : Nat} {A : Around} (r : Room (k + 1) A) (C : Addr) (us : List Value) (kw : List (Str × Value)) : Room k (A.under (.builtin "type.__call__" ⟨.ref C :: us, kw⟩)) :=
 ⟨r.hd, by have := r.dp; rw [Zof]; omega, by have := r.un; rw [Zow]; omega, by first | exact r.gd | (simpa [Around.under, Code.guards, Code.isGuard, guardIds, pushGuards] using r.gd)⟩
theorem Room.depth {k : Nat} {A : Around} (r : Room k A) : A.depth < recursionLimit := by have := r.dp; omega
theorem Room.units {k : Nat} {A : Around} (r : Room k A) : A.units + 64 < cLine := by have := r.un; omega
noncomputable def tNil : TA := fun _ H Q => Q [] H
noncomputable def tCons (ta : TE) (tr : TA) : TA := fun σ H Q => ta σ H fun x H1 => tr σ H1 fun xs H2 => Q (x :: xs) H2
section
variable {X : Cx} {e : Expr} {es : List Expr} {te : TE} {t : TA} {pos : Pos}
theorem Zim : PA X [] tNil := fun _ _ _ _ H Q I h => Calls.spliced_nil ⟨[], H, I, .nil, h⟩
theorem Zdx (ha : PE X e te) (hr : PA X es t) (hs : starEach (e :: es) X.env = (false, eval e X.env) :: starEach es X.env := by rfl) : PA X (e :: es) (tCons te t) := by
 intro pos pins s σ H Q I h
 rw [hs]
 show wpAny _ _ (spliced ((false, eval e X.env) :: backTo pos (starEach es X.env))) _ _ s
 refine Calls.spliced_cons (thn (ha pins s σ H _ I h) fun u s1 zz => ?_)
 obtain ⟨x, H1, I1, r1, q1⟩ := zz
 exact thn (hr pos pins s1 σ H1 _ I1 q1) fun us s2 ⟨xs, H2, I2, r2, q2⟩ => ⟨x :: xs, H2, I2, .cons r1 r2, q2⟩
noncomputable def tTup (t : TA) : TE := fun σ H Q => t σ H fun xs H1 => xs.length ≤ sizeLine ∧ ∀ p, H1 p = none -> Q (.ref p) (upd H1 p (.tup xs))
noncomputable def tLst (t : TA) : TE := fun σ H Q => t σ H fun xs H1 => xs.length ≤ sizeLine ∧ ∀ p, H1 p = none -> Q (.ref p) (upd H1 p (.lst xs))
theorem Zuk {x1} (h : PA X es t) : PE X (.Tuple es x1 pos) (tTup t) := by
 intro pins s σ H Q I hq
 refine wpAny_Tuple_spliced (thn (h pos pins s σ H _ I hq) fun us s1 ⟨xs, H1, I1, r, z, q⟩ => ⟨by rw [← r.length]; exact z, ?_⟩)
 have hf : H1 s1.heap.objs.size = none := I1.hok.fresh (Nat.le_refl _)
 refine ⟨.ref s1.heap.objs.size, upd H1 s1.heap.objs.size (.tup xs), I1.laid (t' := s1.toks) (fun b u e => Heap.get?_push_of_some _ e) (Nat.le_refl _) ?_, rfl, q _ hf⟩
 exact ⟨z, us, r, ⟨_, Heap.get?_push_size _ rfl, rfl, ⟨_, rfl⟩, rfl⟩⟩
theorem Zzu (h : PA X es t) : PE X (.List es pos) (tLst t) := by
 intro pins s σ H Q I hq
 refine wpAny_List_spliced (thn (h pos pins s σ H _ I hq) fun us s1 ⟨xs, H1, I1, r, z, q⟩ => ⟨by rw [← r.length]; exact z, ?_⟩)
 have hf : H1 s1.heap.objs.size = none := I1.hok.fresh (Nat.le_refl _)
 refine ⟨.ref s1.heap.objs.size, upd H1 s1.heap.objs.size (.lst xs), I1.laid (t' := s1.toks) (fun b u e => Heap.get?_push_of_some _ e) (Nat.le_refl _) ?_, rfl, q _ hf⟩
 exact ⟨z, us, 0, r, Heap.get?_push_size _ rfl⟩
end
noncomputable abbrev Sp := List V -> Hp -> VK -> XK -> Prop
noncomputable abbrev CXT := List Env -> Hp -> Shared -> XK -> Value -> Shared -> Prop
structure Env0 (P : Program) (w : World) (K : PySem.W.Frag) (mg : Str -> Option Value) (base : Heap) (A : Around) (outer : List Env) (s : Shared) (H : Hp) : Prop where
 frames : A.frames = some outer
 mod : Mod K mg base
 bs : ∀ b o, base.get? b = some o -> s.heap.get? b = some o ∧ H b = none
 bsz : base.objs.size ≤ s.heap.objs.size
 funs : s.heap.FunFrames base outer
 frf : ∀ b ∈ frs outer, H b = none
 hok : HOk P w H s.heap
 bare : AllBare s.gens
noncomputable def CE (outer : List Env) (P : Program) (w : World) (H : Hp) (s : Shared) (Q : VK) (u : Value) (s' : Shared) : Prop :=
 ∃ v H', s'.os = s.os ∧ AllBare s'.gens ∧ Un (frs outer) [] H H' s.heap s'.heap ∧ HOk P w H' s'.heap ∧ Zbv v u ∧ Q v H'
noncomputable def CR (CX : CXT) (outer : List Env) (P : Program) (w : World) (H : Hp) (s : Shared) (Q : VK) (E : XK) (r : Result) (s' : Shared) : Prop :=
 match r with
 | .ok (.ret u) => CE outer P w H s Q u s'
 | .ok _ => False
 | .error e => CX outer H s E e s'
structure FnOk (P : Program) (w : World) (K : PySem.W.Frag) (mg : Str -> Option Value) (base : Heap) (CX : CXT) (k : Nat) (f : Addr) (fd : FuncData) (ps : List Str) (sp : Sp) : Prop where
 len : ∀ vs H Q E, sp vs H Q E -> vs.length = ps.length
 run : ∀ (A : Around) (outer : List Env) (s : Shared) (H : Hp) (args : Args) (us : List Value) (vs : List V) (Q : VK) (E : XK), Room k A -> Env0 P w K mg base A outer s H -> BindsTo s fd args (ps.zip us) -> Zbf vs us -> sp vs H Q E →
  codeAny (model P w) A (.call (.ref f) args) (CR CX outer P w H s Q E) s
theorem Env0.make {P : Program} {w : World} {K : PySem.W.Frag} {mg : Str -> Option Value} {base : Heap} {A : Around} {outer : List Env} {s : Shared} {H : Hp} (e : Env0 P w K mg base A outer s H) (C : Addr) (us : List Value) (kw : List (Str × Value)) :
  Env0 P w K mg base (A.under (.builtin "type.__call__" ⟨.ref C :: us, kw⟩)) outer s H := ⟨by first | exact e.frames | (simpa [Around.under, Code.envs, Code.isFrame, pushEnvs] using e.frames), e.mod, e.bs, e.bsz, e.funs, e.frf, e.hok, e.bare⟩
section
variable {X : Cx} {pins : List (Addr × Obj)} {σ : St} {H : Hp} {s s' : Shared}
theorem Inv.env0 (I : Inv X pins σ H s) : Env0 X.prog X.w X.K X.mg X.base X.A X.stack s H :=
 ⟨I.ok.frames, I.ok.mod, I.bs, Nat.le_trans I.ok.bsz I.sz, I.stack, I.stkFree, I.hok, I.bare⟩
theorem Inv.after {Q : VK} {u : Value} (I : Inv X pins σ H s) (h : CE X.stack X.prog X.w H s Q u s') : EP X pins σ Q u s' := by
 obtain ⟨v, H', os, bare, un, hok, r, q⟩ := h
 obtain ⟨hh, g, d, t, os'⟩ := s'
 obtain rfl : os' = s.os := os
 exact ⟨v, H', I.call (h' := hh) (g' := g) (d' := d) (t' := t) (ch := []) un hok bare (fun b z => absurd z (by simp)), r, q⟩
end
noncomputable def tCall (sp : Sp) (dvs : List V) (E : XK) (t : TA) : TE := fun σ H Q => t σ H fun vs H1 => sp (vs ++ dvs) H1 Q E
noncomputable def Zvs (C : Addr) (m : Str) (sp : Sp) (dvs : List V) (E : XK) (ta : TE) (t : TA) : TE := fun σ H Q => ta σ H fun x H1 => ∃ a dx fs, x = .ref a ∧ H1 a = some (.ins C dx fs) ∧ fs.lookup m = none ∧
 t σ H1 fun vs H2 => sp (x :: (vs ++ dvs)) H2 Q E
noncomputable def Yas (C : Addr) (sp : Sp) (dvs : List V) (E : XK) (t : TA) : TE := fun σ H Q => t σ H fun vs H1 => ∀ x dx, H1 x = none -> H1 dx = none -> dx ≠ x →
 sp (.ref x :: (vs ++ dvs)) (upd (upd H1 dx (.own x)) x (.ins C dx [])) (fun v H2 => v = .non ∧ Q (.ref x) H2) E
noncomputable def Zfd (K : PySem.W.Frag) (fd : FuncData) (ps : List Str) (ds : List Value) : Prop :=
 ∀ (s : Shared) (us : List Value), K.In s.heap -> (us ++ ds).length = ps.length -> BindsTo s fd ⟨us, []⟩ (ps.zip (us ++ ds))
theorem Zfd.all {K : PySem.W.Frag} {fd : FuncData} {ps : List Str} (h : ∀ us : List Value, us.length = ps.length -> bindArgs fd ⟨us, []⟩ = pure (ps.zip us)) : Zfd K fd ps [] := fun s us _ hl => by
 rw [List.append_nil] at hl ⊢
 exact .of_eq (h us hl)
noncomputable def Zho (CX : CXT) (X : Cx) (E : XK) : Prop := ∀ (pins : List (Addr × Obj)) (σ : St) (H : Hp) (s : Shared) (e : Value) (s' : Shared), Inv X pins σ H s -> CX X.stack H s E e s' -> X.xe e s'
section
variable {X : Cx} {CX : CXT} {k : Nat} {f C : Addr} {fd : FuncData} {ps : List Str} {sp : Sp} {dvs : List V} {ds : List Value} {E : XK} {x m : Str} {p pos apos : Pos} {e o : Expr} {es : List Expr} {ta : TE} {t : TA}
theorem Zrw {pins : List (Addr × Obj)} {σ : St} {H : Hp} {s : Shared} {Q : VK} {us : List Value} {vs : List V} (F : FnOk X.prog X.w X.K X.mg X.base CX k f fd ps sp) (hr : Room k X.A) (hb : Zfd X.K fd ps ds) (hd : Zbf dvs ds) (hx : Zho CX X E)
  (I : Inv X pins σ H s) (r : Zbf vs us) (h : sp (vs ++ dvs) H Q E) : wpAny (model X.prog X.w) X.A (call (.ref f) us) (EP X pins σ Q) X.xe s := by
 have r2 : Zbf (vs ++ dvs) (us ++ ds) := r.append hd
 have hl : (us ++ ds).length = ps.length := by rw [← r2.length]; exact F.len _ _ _ _ h
 refine wpAny_call (codeAny_mono (F.run X.A X.stack s H ⟨us, []⟩ (us ++ ds) (vs ++ dvs) Q E hr I.env0 (hb s us I.kIn hl) r2 h) fun r s' hq => ?_)
 cases r with
 | error e => exact hx pins σ H s e s' I hq
 | ok fl =>
  cases fl with
  | ret u => exact I.after hq
  | next => exact False.elim hq
  | brk => exact False.elim hq
  | cont => exact False.elim hq
theorem Zxi (F : FnOk X.prog X.w X.K X.mg X.base CX k f fd ps sp) (hr : Room k X.A) (hg : Gl X x) (hm : X.mg x = some (.ref f)) (hk : PySem.W.keepIn X.K (.ref f) = true) (hb : Zfd X.K fd ps ds) (hd : Zbf dvs ds) (hx : Zho CX X E)
  (ha : PA X (e :: es) t) (hdb : (x == ("__debug__" : Str)) = false := by decide) (he : starEach (e :: es) X.env = (false, eval e X.env) :: starEach es X.env := by rfl) (hpl : (backTo pos (starEach es X.env)).any (·.1) = false := by rfl) :
  PE X (.Call (.Name x p) (e :: es) [] pos) (tCall sp dvs E t) := by
 intro pins s σ H Q I h
 refine wpAny_Call_Name_kw (Zhg I hg hm ?_ hdb)
 refine PySem.W.callWith_K (h₀ := X.base) I.ok.mod.kin hk (thn (ha pos pins s σ H _ I h) fun us s1 ⟨vs, H1, I1, r, q⟩ => ⟨I1.kIn, ?_⟩) he hpl
 exact Zrw F hr hb hd hx I1 r q
theorem Zwg {pl : Sem Bool} (he : PE X o ta) (c : Cls X.K C) (hm : Meth X.K C m f) (F : FnOk X.prog X.w X.K X.mg X.base CX k f fd ps sp) (hr : Room k X.A) (hb : Zfd X.K fd ps ds) (hd : Zbf dvs ds) (hx : Zho CX X E) (ha : PA X (e :: es) t)
  (hst : starEach (e :: es) X.env = (false, eval e X.env) :: starEach es X.env := by rfl) (hpl : (backTo pos (starEach es X.env)).any (·.1) = false := by rfl)
  (ht : eval (.Call (.Attribute o m apos) (e :: es) [] pos) X.env = (do
   let ov ← eval o X.env
   standAt apos.atName
   let (f, first) ← holding [ov] (getMethod ov m pl)
   callWith pos f first (backTo pos (starEach (e :: es) X.env)) (backToKw pos (keywordEach [] X.env))) := by rfl) :
  PE X (.Call (.Attribute o m apos) (e :: es) [] pos) (Zvs C m sp dvs E ta t) := by
 intro pins s σ H Q I h
 refine PySem.W.methodCall_KW (pl := pl) (thn (he pins s σ H _ I h) fun u s1 ⟨x, H1, I1, rx, a, dx, fs, ex, ea, l, q⟩ => ?_) ht
 subst ex
 obtain rfl : u = Value.ref a := rx
 refine Zew I1 ea c hm l ?_
 refine PySem.W.callWith_K (first := [.ref a]) (h₀ := X.base) I.ok.mod.kin hm.kp (thn (ha pos pins s1 σ H1 _ I1 q) fun us s2 ⟨vs, H2, I2, r, q2⟩ => ⟨I2.kIn, ?_⟩) hst hpl
 exact Zrw (us := .ref a :: us) (vs := .ref a :: vs) F hr hb hd hx I2 (.cons rfl r) q2
theorem Zt2 {pl : Sem Bool} (he : PE X o ta) (c : Cls X.K C) (hm : Meth X.K C m f) (F : FnOk X.prog X.w X.K X.mg X.base CX k f fd ps sp) (hr : Room k X.A) (hb : Zfd X.K fd ps ds) (hd : Zbf dvs ds) (hx : Zho CX X E)
  (ht : eval (.Call (.Attribute o m apos) [] [] pos) X.env = (do
   let ov ← eval o X.env
   standAt apos.atName
   let (f, first) ← holding [ov] (getMethod ov m pl)
   callWith pos f first (backTo pos (starEach [] X.env)) (backToKw pos (keywordEach [] X.env))) := by rfl) :
  PE X (.Call (.Attribute o m apos) [] [] pos) (Zvs C m sp dvs E ta tNil) := by
 intro pins s σ H Q I h
 refine PySem.W.methodCall_KW (pl := pl) (thn (he pins s σ H _ I h) fun u s1 ⟨x, H1, I1, rx, a, dx, fs, ex, ea, l, q⟩ => ?_) ht
 subst ex
 obtain rfl : u = Value.ref a := rx
 refine Zew I1 ea c hm l ?_
 exact PySem.W.callWith_K0 (first := [.ref a]) I1.kIn hm.kp (Zrw (us := [.ref a]) (vs := [.ref a]) F hr hb hd hx I1 (.cons rfl .nil) q)
structure Mk (K : PySem.W.Frag) (C f : Addr) : Prop where
 makes : PySem.W.makesIn K C = true
 init : PySem.W.findIn K (.ref C) "__init__" = some (some (.ref f))
 fn : PySem.W.isFn K (.ref f) = true
 kp : PySem.W.keepIn K (.ref C) = true
theorem Zth {pins : List (Addr × Obj)} {σ : St} {H : Hp} {s : Shared} {Q : VK} {us : List Value} {vs : List V} (M : Mk X.K C f) (F : FnOk X.prog X.w X.K X.mg X.base CX k f fd ps sp) (hr : Room (k + 1) X.A) (hb : Zfd X.K fd ps ds) (hd : Zbf dvs ds)
  (hx : Zho CX X E) (I : Inv X pins σ H s) (r : Zbf vs us)
  (h : ∀ x dx, H x = none -> H dx = none -> dx ≠ x -> sp (.ref x :: (vs ++ dvs)) (upd (upd H dx (.own x)) x (.ins C dx [])) (fun v H2 => v = .non ∧ Q (.ref x) H2) E) :
  wpAny (model X.prog X.w) X.A (call (.ref C) us) (EP X pins σ Q) X.xe s := by
 have hq := h (s.heap.objs.size + 1) s.heap.objs.size (I.hok.fresh (Nat.le_succ _)) (I.hok.fresh (Nat.le_refl _)) (Nat.ne_of_lt (Nat.lt_succ_self _))
 have I2 := Inv.made (C := C) I
 have r2 : Zbf (V.ref (s.heap.objs.size + 1) :: (vs ++ dvs)) (Value.ref (s.heap.objs.size + 1) :: (us ++ ds)) := .cons rfl (r.append hd)
 have hl : (Value.ref (s.heap.objs.size + 1) :: us ++ ds).length = ps.length := by
  have e := r2.length
  rw [F.len _ _ _ _ hq] at e
  exact e.symm
 refine wpAny_call (Ztl (f := f) I.kIn M.makes M.init (beq_iff_eq.mp M.fn) (codeAny_mono (F.run _ X.stack _ _ ⟨Value.ref (s.heap.objs.size + 1) :: us, []⟩ (Value.ref (s.heap.objs.size + 1) :: (us ++ ds)) _ _ E (hr.make C us [])
  (I2.env0.make C us []) (hb _ (Value.ref (s.heap.objs.size + 1) :: us) I2.kIn hl) r2 hq) fun r s' hq' => ?_))
 cases r with
 | error e => exact hx pins σ _ _ e s' I2 hq'
 | ok fl =>
  cases fl with
  | ret u =>
   obtain ⟨v, H', I3, rv, ev, q3⟩ := I2.after hq'
   subst ev
   exact ⟨rv, ⟨V.ref (s.heap.objs.size + 1), H', I3, rfl, q3⟩⟩
  | next => exact False.elim hq'
  | brk => exact False.elim hq'
  | cont => exact False.elim hq'
theorem Zv3 (M : Mk X.K C f) (F : FnOk X.prog X.w X.K X.mg X.base CX k f fd ps sp) (hr : Room (k + 1) X.A) (hg : Gl X x) (hm : X.mg x = some (.ref C)) (hb : Zfd X.K fd ps ds) (hd : Zbf dvs ds) (hx : Zho CX X E)
  (ha : PA X (e :: es) t) (hdb : (x == ("__debug__" : Str)) = false := by decide) (he : starEach (e :: es) X.env = (false, eval e X.env) :: starEach es X.env := by rfl) (hpl : (backTo pos (starEach es X.env)).any (·.1) = false := by rfl) :
  PE X (.Call (.Name x p) (e :: es) [] pos) (Yas C sp dvs E t) := by
 intro pins s σ H Q I h
 refine wpAny_Call_Name_kw (Zhg I hg hm ?_ hdb)
 refine PySem.W.callWith_K (h₀ := X.base) I.ok.mod.kin M.kp (thn (ha pos pins s σ H _ I h) fun us s1 ⟨vs, H1, I1, r, q⟩ => ⟨I1.kIn, ?_⟩) he hpl
 exact Zth M F hr hb hd hx I1 r q
end
structure FnScope (N P : List Str) (sc : Scope) : Prop where
 kind : sc.kind = .function
 co : sc.isCoroutine = false
 gen : sc.isGenerator = false
 nd : N.Nodup
 pre : N.take P.length = P
 par : ∀ x ∈ P, sc.names.lookup x = some .local ∨ sc.names.lookup x = some .cell
 nofree : ∀ y ∈ sc.names, y.2 ≠ .free
theorem Zls {kindOf : Str -> Option NameKind} {x : Str} : ∀ {binds : List (Str × Value)} {m : Str -> Option Value}, (∀ v, (x, v) ∉ binds) -> bindL kindOf binds m x = m x
 | [], _, _ => rfl
 | (n, v) :: r, m, h => by
  unfold bindL
  rw [Zls fun w hw => h w (List.mem_cons_of_mem _ hw)]
  split
  ·have : x ≠ n := by rintro rfl; exact h v List.mem_cons_self
   simp [this]
  ·rfl
theorem Zk8 {kindOf : Str -> Option NameKind} {x : Str} : ∀ {binds : List (Str × Value)} {m : Str -> Option Value}, (∀ v, (x, v) ∉ binds) -> bindC kindOf binds m x = m x
 | [], _, _ => rfl
 | (n, v) :: r, m, h => by
  unfold bindC
  rw [Zk8 fun w hw => h w (List.mem_cons_of_mem _ hw)]
  split
  ·rfl
  ·have : x ≠ n := by rintro rfl; exact h v List.mem_cons_self
   simp [this]
theorem Zk3 {kindOf : Str -> Option NameKind} {x : Str} {v : Value} : ∀ {P : List Str} {vs : List Value} {i : Nat} {m : Str -> Option Value}, P.Nodup -> P[i]? = some x -> vs[i]? = some v -> kindOf x = some .local →
  bindL kindOf (P.zip vs) m x = some v
 | [], _, _, _, _, h, _, _ => by simp at h
 | _ :: _, [], _, _, _, _, h, _ => by simp at h
 | p :: P, w :: vs, 0, m, nd, h1, h2, hk => by
  simp at h1 h2; subst h1; subst h2
  show bindL kindOf ((p, w) :: P.zip vs) m p = _
  unfold bindL
  rw [Zls fun v hv => (List.nodup_cons.mp nd).1 (List.of_mem_zip hv).1, if_pos hk]
  simp
 | p :: P, w :: vs, i + 1, m, nd, h1, h2, hk => by
  show bindL kindOf ((p, w) :: P.zip vs) m x = _
  unfold bindL
  exact Zk3 (i := i) (List.nodup_cons.mp nd).2 (by simpa using h1) (by simpa using h2) hk
theorem Zlh {kindOf : Str -> Option NameKind} {x : Str} {v : Value} : ∀ {P : List Str} {vs : List Value} {i : Nat} {m : Str -> Option Value}, P.Nodup -> P[i]? = some x -> vs[i]? = some v -> kindOf x ≠ some .local →
  bindC kindOf (P.zip vs) m x = some v
 | [], _, _, _, _, h, _, _ => by simp at h
 | _ :: _, [], _, _, _, _, h, _ => by simp at h
 | p :: P, w :: vs, 0, m, nd, h1, h2, hk => by
  simp at h1 h2; subst h1; subst h2
  show bindC kindOf ((p, w) :: P.zip vs) m p = _
  unfold bindC
  rw [Zk8 fun v hv => (List.nodup_cons.mp nd).1 (List.of_mem_zip hv).1, if_neg hk]
  simp
 | p :: P, w :: vs, i + 1, m, nd, h1, h2, hk => by
  show bindC kindOf ((p, w) :: P.zip vs) m x = _
  unfold bindC
  exact Zlh (i := i) (List.nodup_cons.mp nd).2 (by simpa using h1) (by simpa using h2) hk
noncomputable def start (N : List Str) (vs : List V) : St := vs.map some ++ List.replicate (N.length - vs.length) none
noncomputable def Zey (CX : CXT) (P : Program) (w : World) (K : PySem.W.Frag) (mg : Str -> Option Value) (base : Heap) (N : List Str) (qual : Str) (scope : Scope) (f : Addr) (cd : Value) (A : Around) (outer : List Env) (s : Shared) (H : Hp) (E : XK) : Cx where
 prog := P
 w := w
 K := K
 mg := mg
 base := base
 A := A.deeper (envOfC qual scope s.heap.objs.size f cd)
 N := N
 s₀ := s
 H₀ := H
 env := envOfC qual scope s.heap.objs.size f cd
 outer := outer
 stack := envOfC qual scope s.heap.objs.size f cd :: outer
 ex := []
 calm := true
 fn := fun _ => true
 pn := []
 xe := fun e s' => wpAny (model P w) (A.deeper (envOfC qual scope s.heap.objs.size f cd)) (leaving (envOfC qual scope s.heap.objs.size f cd) e) (fun _ s'' => CX outer H s E e s'') (fun e' s'' => CX outer H s E e' s'') s'
theorem Zg8 {sc : Scope} {n : Nat} {x : Str} (h : sc.names.lookup x = some .cell) : ∃ c, (cellsFrom n sc.names []).lookup x = some c := by
 have q := PySem.W.cellsFrom_some sc.names n [] (.inl h)
 exact Option.isSome_iff_exists.mp q
theorem Zqm {CX : CXT} {P : Program} {w : World} {K : PySem.W.Frag} {mg : Str -> Option Value} {base : Heap} {N ps : List Str} {qual : Str} {scope : Scope} {f : Addr} {cd : Value} {A : Around} {outer : List Env} {s s1 : Shared} {H : Hp} {E : XK} {us : List Value} {vs : List V}
  (S : FnScope N ps scope) (hd : A.handled = none) (e0 : Env0 P w K mg base A outer s H) (hl : vs.length = ps.length) (r : Zbf vs us)
  (x : InCallC s s.heap.objs.size (bindL (envOfC qual scope s.heap.objs.size f cd).kindOf (ps.zip us) fun _ => none) (cellsFrom (s.heap.objs.size + 1) scope.names []) (bindC (envOfC qual scope s.heap.objs.size f cd).kindOf (ps.zip us) fun _ => none) s1) :
  Inv (Zey CX P w K mg base N qual scope f cd A outer s H E) [] (start N vs) H s1 := by
 have hpl : ps.length ≤ N.length := by have := congrArg List.length S.pre; rw [List.length_take] at this; omega
 obtain ⟨h1, tk, rfl, hk⟩ := x.done
 have noA : ∀ b : Addr, b ∉ (Zey CX P w K mg base N qual scope f cd A outer s H E).ex := fun b z => absurd (show b ∈ ([] : List Addr) from z) (by simp)
 refine ⟨⟨e0.mod, S.kind, rfl, rfl, Nat.le_refl _, fun y z c h1 h2 => ?_, fun y hy => ?_, fun y c _ h => ?_, fun _ => hd, Around.frames_deeper e0.frames, .inr ⟨rfl, rfl⟩, fun b z => absurd z (noA b), e0.bs, e0.bsz, fun b _ _ => noA b, fun b z => absurd z (noA b), e0.funs, e0.frf⟩,
  rfl, e0.bare, Un.kept hk, ⟨_, x.toInCall.ns, fun i y v h1 h2 h3 => ?_⟩, fun y c h => ⟨_, x.cell y c h⟩, e0.hok.fresh (Nat.le_refl _), fun y c h => ?_, fun p hp => absurd (show p ∈ ([] : List (Addr × Obj)) from hp) (by simp), e0.hok.kept hk, ?_⟩
 ·exact name_of_addr x.apart (PySem.mem_of_lookup h1) (PySem.mem_of_lookup h2)
 ·have hy : scope.names.lookup y = some .cell ∨ scope.names.lookup y = some .free := hy
  rcases hy with hy | hy
  ·exact Zg8 hy
  ·exact absurd rfl (S.nofree _ (PySem.mem_of_lookup hy))
 ·exact Nat.le_of_lt (x.above y c (PySem.mem_of_lookup h))
 ·have hi : i < vs.length := by
   unfold start at h2
   by_cases hi : i < vs.length
   ·exact hi
   ·rw [List.getElem?_append_right (by simpa using hi)] at h2
    rw [List.getElem?_replicate] at h2
    split at h2 <;> cases h2
  have ha : vs[i]? = some v := by
   unfold start at h2
   rw [List.getElem?_append_left (by simpa using hi), List.getElem?_map] at h2
   cases e : vs[i]? with
   | none => rw [e] at h2; cases h2
   | some a => rw [e] at h2; cases h2; rfl
  obtain ⟨u, hu, rv⟩ := r.get ha
  have hp : ps[i]? = some y := by
   rw [← S.pre, List.getElem?_take_of_lt (by omega)]; exact h1
  have ndP : ps.Nodup := by rw [← S.pre]; exact S.nd.sublist (List.take_sublist _ _)
  refine ⟨u, rv, ?_⟩
  rcases S.par y (List.mem_of_getElem? hp) with k | k
  ·exact .inl ⟨k, Zk3 ndP hp hu k⟩
  ·obtain ⟨c, e⟩ := Zg8 (n := s.heap.objs.size + 1) k
   refine .inr ⟨.inl k, c, e, ?_⟩
   have q := x.cell y c e
   rw [Zlh ndP hp hu (by show scope.names.lookup y ≠ _; rw [k]; decide)] at q
   exact q
 ·exact e0.hok.fresh (Nat.le_of_lt (x.above y c (PySem.mem_of_lookup h)))
 ·unfold start
  show _ = N.length
  rw [List.length_append, List.length_map, List.length_replicate]
  omega
theorem Zyn {CX : CXT} {P : Program} {w : World} {K : PySem.W.Frag} {mg : Str -> Option Value} {base : Heap} {k : Nat} {f : Addr} {name qual : Str} {params : Arguments} {body : List Stmt} {scope : Scope} {dV kV doc pm cdv ct oc : Value} {an od : Option Addr}
  {osl : Array (Option Value)} {N ps : List Str} {sp : Sp} (lk : K.lookup f = some ⟨oc, od, .func (PySem.W.fnOf name qual params body scope dV kV doc pm an cdv ct), osl⟩) (hcd : PySem.W.codeIn K cdv qual = true) (S : FnScope N ps scope)
  (len : ∀ vs H Q E, sp vs H Q E -> vs.length = ps.length)
  (hbody : ∀ (A : Around) (outer : List Env) (s : Shared) (H : Hp) (vs : List V) (Q : VK) (E : XK), Room k (A.deeper (envOfC qual scope s.heap.objs.size f cdv)) -> sp vs H Q E →
   ∃ t, PSs (Zey CX P w K mg base N qual scope f cdv A outer s H E) body t ∧ t { nx := fun _ H' => Q .non H', rt := Q } (start N vs) H) :
  FnOk P w K mg base CX (k + 1) f (PySem.W.fnOf name qual params body scope dV kV doc pm an cdv ct) ps sp := by
 refine ⟨len, fun A outer s H args us vs Q E hr e0 hb r hsp => ?_⟩
 have hl := len _ _ _ _ hsp
 have KX : K.In s.heap := e0.mod.kin.keeps fun b o e => (e0.bs b o e).1
 have lim : s.heap.NoLimit := e0.mod.nolimit.keeps fun b o e => (e0.bs b o e).1
 have hkind : ∀ y ∈ ps.zip us, scope.names.lookup y.1 = some .local ∨ (scope.names.lookup y.1 = some .cell ∧ ((cellsFrom (s.heap.objs.size + 1) scope.names []).lookup y.1).isSome = true) := fun ⟨n, v⟩ hy => by
  rcases S.par n (List.of_mem_zip hy).1 with q | q
  ·exact .inl q
  ·exact .inr ⟨q, PySem.W.cellsFrom_some _ _ _ (.inl q)⟩
 refine codeAny_call_function hr.depth (KX _ _ lk) rfl S.co S.gen rfl (PySem.W.codeRec_of KX hcd) (hb _ _ _ _ ?_)
 refine wpAny_newFunctionEnv_cells S.kind hkind fun env he s1 x => ?_
 subst he
 refine ⟨lim.keeps x.toInCall.keep, codeAny_func ?_⟩
 obtain ⟨t, ht, hq⟩ := hbody A outer s H vs Q E (hr.deeper _) hsp
 have I : Inv (Zey CX P w K mg base N qual scope f cdv A outer s H E) [] (start N vs) H s1 := Zqm S hr.hd e0 hl r x
 refine wpAny_mono (ht [] s1 (start N vs) H _ I hq) (fun fl s' hs => ?_) fun e s' hs => hs
 have fin : ∀ {σ' : St} {H' : Hp} {v : V} {u : Value}, Inv (Zey CX P w K mg base N qual scope f cdv A outer s H E) [] σ' H' s' -> Zbv v u -> Q v H' -> CE outer P w H s Q u s' :=
  fun {σ' H' v u} J rv q => ⟨v, H', J.os, J.bare, J.base, J.hok, rv, q⟩
 cases fl with
 | ret u =>
  obtain ⟨v, σ', H', J, rv, q⟩ := hs
  exact fin J rv q
 | next =>
  obtain ⟨σ', H', J, q⟩ := hs
  exact fin (v := V.non) (u := Value.none) J rfl q
 | brk =>
  obtain ⟨_, _, _, q⟩ := hs
  exact False.elim q
 | cont =>
  obtain ⟨_, _, _, q⟩ := hs
  exact False.elim q
section
variable {X : Cx} {x : Str} {p pos : Pos} {e : Expr} {es : List Expr} {t : TA} {id T : String} {r : List V -> Hp -> VK -> Prop}
noncomputable def tCB (r : List V -> Hp -> VK -> Prop) (t : TA) : TE := fun σ H Q => t σ H fun vs H1 => r vs H1 Q
theorem Zg5 (hc : Zfl X (.builtin id) r) (hg : Gl X x) (hm : X.mg x = none) (hv : bootBuiltins x = some (.builtin id)) (ha : PA X (e :: es) t) (hn : x ≠ "__name__" := by decide) (hdb : (x == ("__debug__" : Str)) = false := by decide)
  (he : starEach (e :: es) X.env = (false, eval e X.env) :: starEach es X.env := by rfl) (hpl : (backTo pos (starEach es X.env)).any (·.1) = false := by rfl) : PE X (.Call (.Name x p) (e :: es) [] pos) (tCB r t) := by
 intro pins s σ H Q I h
 refine wpAny_Call_Name_kw (Zfw I hg hm hv ?_ hn hdb)
 exact PyProof.Rows.callWith_builtin1 (thn (ha pos pins s σ H _ I h) fun us s1 ⟨vs, H1, I1, r1, q1⟩ => hc pins s1 σ H1 vs us Q I1 r1 q1) he hpl
theorem Zki (hc : Zfl X (.type T) r) (hg : Gl X x) (hm : X.mg x = none) (hv : bootBuiltins x = some (.type T)) (ha : PA X (e :: es) t) (hn : x ≠ "__name__" := by decide) (hdb : (x == ("__debug__" : Str)) = false := by decide)
  (he : starEach (e :: es) X.env = (false, eval e X.env) :: starEach es X.env := by rfl) (hpl : (backTo pos (starEach es X.env)).any (·.1) = false := by rfl) : PE X (.Call (.Name x p) (e :: es) [] pos) (tCB r t) := by
 intro pins s σ H Q I h
 refine wpAny_Call_Name_kw (Zfw I hg hm hv ?_ hn hdb)
 exact PyProof.Rows.callWith_type1 (thn (ha pos pins s σ H _ I h) fun us s1 ⟨vs, H1, I1, r1, q1⟩ => hc pins s1 σ H1 vs us Q I1 r1 q1) he hpl
end
end L2
namespace HT
open PySem PyProof.Rows
section
variable {prog : Program} {w : World} {A : Around} {E : Value -> Shared -> Prop} {s : Shared}
theorem cat_tup {t b : Addr} {vs ws : List Value} {Q : Value -> Shared -> Prop} (ht : IsTup s.heap t vs.toArray) (hb : IsTup s.heap b ws.toArray) (hv : vs ≠ [])
  (h1 : ws = [] → Q (.ref t) s) (h2 : ws ≠ [] → Q (.ref s.heap.objs.size) { s with heap := s.heap.push { cls := .type "tuple", data := .seq (vs ++ ws).toArray } })
  (hsz : vs.length + ws.length ≤ sizeLine) : wpAny (model prog w) A (binaryOp .Add (.ref t) (.ref b)) Q E s := by
 obtain ⟨⟨cls, dd, data, sl⟩, ho, hc, n, hd⟩ := id ht
 obtain ⟨⟨cls2, dd2, data2, sl2⟩, ho2, hc2, n2, hd2⟩ := id hb
 simp only at hc hd hc2 hd2
 subst hc hd hc2 hd2
 have e : vs.toArray ++ ws.toArray = (vs ++ ws).toArray := by simp
 by_cases hw : ws = []
 ·exact concat_meets ⟨_, ho, rfl⟩ ⟨_, ho2, rfl⟩ noFill_tuple_add seq_tuple_add PySem.F.slot_tuple_add PySem.F.entry_tuple_add (PySem.F.args_tuple_add_2 _ _)
   (tuple_addW1 t b vs.toArray ws.toArray n n2 dd dd2 sl sl2 (by simpa using hv) (by simp [hw])) ⟨ho, ho2, h1 hw⟩
 ·refine concat_meets ⟨_, ho, rfl⟩ ⟨_, ho2, rfl⟩ noFill_tuple_add seq_tuple_add PySem.F.slot_tuple_add PySem.F.entry_tuple_add (PySem.F.args_tuple_add_2 _ _)
   (tuple_addW2 t b vs.toArray ws.toArray n n2 dd dd2 sl sl2 (by simpa using hv) (by simpa using hw) (by rw [List.size_toArray, List.size_toArray]; exact hsz)) ⟨ho, ho2, ?_⟩
  rw [e]
  exact h2 hw
noncomputable def sIx (n d : Nat) : Option Int -> Nat
 | none => d
 | some v => if v < 0 then (v + (n : Int)).toNat else min v.toNat n
theorem Ya3 (n d : Nat) (hd : d ≤ n) (o : Option Int) : sIx n d o ≤ n := by
 cases o with
 | none => exact hd
 | some v =>
  show (if v < 0 then (v + (n : Int)).toNat else min v.toNat n) ≤ n
  by_cases hv : v < 0
  ·rw [if_pos hv]; omega
  ·rw [if_neg hv]; exact Nat.min_le_right _ _
theorem Zp8 (v : Int) (n d : Nat) : (if v < 0 then max (v + (n : Int)) 0 else min v (n : Int)) = ((sIx n d (some v) : Nat) : Int) := by
 show (if v < 0 then max (v + (n : Int)) 0 else min v (n : Int)) = (((if v < 0 then (v + (n : Int)).toNat else min v.toNat n) : Nat) : Int)
 by_cases hv : v < 0
 ·simp only [if_pos hv]; omega
 ·simp only [if_neg hv]; omega
theorem Zog (lo hi : Option Int) (n : Nat) : Builtin.Slice.sliceAdjust lo hi 1 (n : Int) = (((sIx n 0 lo : Nat) : Int), ((sIx n n hi : Nat) : Int)) := by
 have h1 : ¬ ((1 : Int) < 0) := by omega
 unfold Builtin.Slice.sliceAdjust
 simp only [h1, if_false]
 refine Prod.ext ?_ ?_
 ·cases lo with
  | none => rfl
  | some v => exact Zp8 v n 0
 ·cases hi with
  | none => rfl
  | some v => exact Zp8 v n n
theorem Zob (i j : Nat) : Builtin.Slice.slicePlaces (i : Int) (j : Int) 1 = j - i := by
 unfold Builtin.Slice.slicePlaces
 have h1 : (1 : Int) > 0 := by omega
 simp only [h1, if_true, Int.ediv_one]
 split <;> omega
theorem Zio {v : Value} {o : Option Int} {Q : Option Int -> Shared -> Prop} (p : IsPart v o) (h : Q o s) : wpAny (model prog w) A (Builtin.Slice.slicePartIndex v) Q E s := by
 cases p with
 | none => exact slicePart_none h
 | int i t => exact slicePart_int h
theorem sliceApplied_gen {sl : Addr} {vl vu : Value} {lo hi : Option Int} {n : Nat} {Q : Int × Int × Nat -> Shared -> Prop} (hs : s.heap.IsSliceOf sl vl vu .none) (pl : IsPart vl lo) (pu : IsPart vu hi)
  (h : Q (((sIx n 0 lo : Nat) : Int), 1, sIx n n hi - sIx n 0 lo) s) : wpAny (model prog w) A (Builtin.Slice.sliceApplied (.ref sl) (pure (n : Int))) Q E s := by
 obtain ⟨os, hos, hcs, hds⟩ := id hs
 unfold Builtin.Slice.sliceApplied Builtin.Slice.sliceFields
 refine wpAny_bind (wpAny_bind (wpAny_field hos hds (x := vl) rfl (wpAny_bind (wpAny_field hos hds (x := vu) rfl (wpAny_bind (wpAny_field hos hds (x := .none) rfl (wpAny_pure ?_)))))))
 refine wpAny_bind (slicePart_none ?_)
 show wpAny _ _ (if ((1 : Int) == 0) = true then _ else _) _ _ s
 rw [if_neg (by decide)]
 refine wpAny_bind (Zio pl (wpAny_bind (Zio pu (wpAny_bind (wpAny_pure ?_)))))
 show wpAny _ _ (match Builtin.Slice.sliceAdjust lo hi 1 (n : Int) with | (lo, hi) => pure (lo, (1 : Int), Builtin.Slice.slicePlaces lo hi 1)) _ _ s
 rw [Zog lo hi n]
 show wpAny _ _ (pure (((sIx n 0 lo : Nat) : Int), (1 : Int), Builtin.Slice.slicePlaces ((sIx n 0 lo : Nat) : Int) ((sIx n n hi : Nat) : Int) 1)) _ _ s
 rw [Zob]
 exact wpAny_pure h
theorem Zsq (xs : Array Value) (i k : Nat) : ((List.range k).filterMap fun (m : Nat) => xs[((i : Int) + (m : Int) * 1).toNat]?).toArray = ((xs.toList.drop i).take k).toArray := by
 have e : (fun (m : Nat) => xs[((i : Int) + (m : Int) * 1).toNat]?) = fun m => xs[i + m]? := by
  funext m
  have : ((i : Int) + (m : Int) * 1).toNat = i + m := by omega
  rw [this]
 rw [e]
 have := pick_run xs i k
 rw [List.filterMap_map] at this
 have e2 : ((fun x => xs[x]?) ∘ fun x => i + x) = fun m => xs[i + m]? := rfl
 rw [e2] at this
 rw [this]
theorem getItem_tuple_cut {t sl : Addr} {items : Array Value} {vl vu : Value} {lo hi : Option Int} {Q : Value -> Shared -> Prop} (ht : IsTup s.heap t items) (hs : s.heap.IsSliceOf sl vl vu .none) (pl : IsPart vl lo) (pu : IsPart vu hi)
  (hw : ¬ (sIx items.size 0 lo = 0 ∧ sIx items.size items.size hi = items.size))
  (h : Q (.ref s.heap.objs.size) { s with heap := s.heap.push { cls := .type "tuple", data := .seq ((items.toList.drop (sIx items.size 0 lo)).take (sIx items.size items.size hi - sIx items.size 0 lo)).toArray } })
  (hsz : items.size ≤ sizeLine) : wpAny (model prog w) A (getItem (.ref t) (.ref sl)) Q E s := by
 have htake : sizeOk (.seq ((items.toList.drop (sIx items.size 0 lo)).take (sIx items.size items.size hi - sIx items.size 0 lo)).toArray) := by
  show ((items.toList.drop (sIx items.size 0 lo)).take (sIx items.size items.size hi - sIx items.size 0 lo)).toArray.size ≤ sizeLine
  rw [List.size_toArray, List.length_take, List.length_drop, Array.length_toList]
  omega
 have hj : sIx items.size items.size hi ≤ items.size := Ya3 _ _ (Nat.le_refl _) hi
 obtain ⟨os, hos, hcs, hds⟩ := id hs
 have hTs : s.TypeIs (.ref sl) "slice" := ⟨os, hos, hcs⟩
 unfold getItem
 try with_reducible refine wpAny_holding ?_
 first | refine wpAny_bind (wpAny_pure ?_) | skip
 refine wpAny_bind (wpAny_sequenceKey ht.typeIs (by decide) ?_)
 refine wpAny_bind (wpAny_callSpecial?_slot (name := Str.ofString "__getitem__") ht.typeIs PyProof.Rows.slot_tuple_getitem
  (wpAny_call_entry PyProof.Rows.slot_tuple_getitem ht.typeIs entry_tuple_getitem ?_ (args_tuple_getitem _ _)))
 show wpAny _ _ (Builtin.Tuple.tupleItemsOf (.ref t) >>= _) _ _ s
 refine wpAny_bind (tupleItemsOf_ ht ?_)
 refine wpAny_bind (wpAny_typeOf hTs ?_)
 rw [if_pos (by decide)]
 refine wpAny_bind (sliceApplied_gen hs pl pu ?_)
 have hno : ¬ ((((sIx items.size 0 lo : Nat) : Int) == 0 && (1 : Int) == 1 && (sIx items.size items.size hi - sIx items.size 0 lo) == items.size) = true) := by
  intro q
  rw [Bool.and_eq_true, Bool.and_eq_true] at q
  have q1 : ((sIx items.size 0 lo : Nat) : Int) = 0 := eq_of_beq q.1.1
  have q2 : sIx items.size items.size hi - sIx items.size 0 lo = items.size := eq_of_beq q.2
  exact hw ⟨by omega, by omega⟩
 show wpAny _ _ (if (((sIx items.size 0 lo : Nat) : Int) == 0 && (1 : Int) == 1 && (sIx items.size items.size hi - sIx items.size 0 lo) == items.size) = true then _ else _) _ _ s
 rw [if_neg hno, Zsq]
 first
  | exact wpAny_bind (m := Builtin.Tuple.tupleExact _) (wpAny_newObj_type (wpAny_pure ⟨_, rfl, wpAny_pure h⟩) htake)
  | exact wpAny_bind (m := Builtin.Tuple.tupleExact _) (wpAny_newObj_type (wpAny_bind (wpAny_pure (wpAny_pure ⟨_, rfl, wpAny_pure h⟩))) htake)
  | exact wpAny_bind (wpAny_bind (m := Builtin.Tuple.tupleExact _) (wpAny_newObj_type (wpAny_pure (wpAny_pure ⟨_, rfl, wpAny_pure h⟩)) htake))
  | exact wpAny_bind (wpAny_bind (m := Builtin.Tuple.tupleExact _) (wpAny_newObj_type (wpAny_pure ⟨_, rfl, wpAny_pure h⟩) htake))
end
end HT
namespace L2
open PySem PySem.Spec PyProof.Rows
noncomputable abbrev TO := St -> Hp -> (Option Int -> Hp -> Prop) -> Prop
noncomputable def PO (X : Cx) (e : Option Expr) (t : TO) : Prop :=
 ∀ (pins : List (Addr × Obj)) (s : Shared) (σ : St) (H : Hp) (Q : Option Int -> Hp -> Prop), Inv X pins σ H s -> t σ H Q →
  wpAny (model X.prog X.w) X.A (evalPart e X.env) (fun u s' => ∃ o H', Inv X pins σ H' s' ∧ IsPart u o ∧ Q o H') X.xe s
noncomputable def Zwy : TO := fun _ H Q => Q none H
noncomputable def tPart (t : TE) : TO := fun σ H Q => t σ H fun x H1 => ∃ i, x = .int i ∧ Q (some i) H1
theorem Zoa {ns : List Int} : ∀ {us : List Value}, Zbf (ns.map V.int) us -> IntsAre us ns := by
 induction ns with
 | nil => intro us r; rw [List.map_nil] at r; cases r; exact .nil
 | cons n ns ih =>
  intro us r
  rw [List.map_cons] at r
  cases r with
  | cons r1 r2 =>
   obtain ⟨t, e⟩ := r1
   subst e
   exact .cons n t (ih r2)
section
variable {X : Cx} {e : Expr} {te : TE} {lo hi : Option Expr} {tl th : TO} {pos p2 : Pos}
theorem Zvn : PO X none Zwy := by
 intro pins s σ H Q I h
 rw [evalPart_none]
 exact wpAny_pure ⟨none, H, I, .none, h⟩
theorem Zww (h : PE X e te) : PO X (some e) (tPart te) := by
 intro pins s σ H Q I hw
 rw [evalPart_some]
 refine thn (h pins s σ H _ I hw) fun u s1 zz => ?_
 obtain ⟨x, H1, I1, r1, q1⟩ := zz
 obtain ⟨i, rfl, q⟩ := q1
 obtain ⟨t, rfl⟩ := r1
 exact ⟨some i, H1, I1, .int i t, q⟩
noncomputable def SlR (X : Cx) (r : V -> Option Int -> Option Int -> Hp -> VK -> Prop) : Prop :=
 ∀ (pins : List (Addr × Obj)) (s : Shared) (σ : St) (H : Hp) (x : V) (v vl vu : Value) (lo hi : Option Int) (sl : Addr) (Q : VK), Inv X pins σ H s -> Zbv x v -> s.heap.IsSliceOf sl vl vu .none -> IsPart vl lo -> IsPart vu hi -> r x lo hi H Q →
  ∃ T id, typeLookup (.type T) "__getitem__" = pure (some (.builtin id)) ∧ s.TypeIs v T ∧ wpAny (model X.prog X.w) X.A (getItem v (.ref sl)) (EP X pins σ Q) X.xe s
noncomputable def tSl (r : V -> Option Int -> Option Int -> Hp -> VK -> Prop) (te : TE) (tl th : TO) : TE := fun σ H Q => te σ H fun x H1 => tl σ H1 fun l H2 => th σ H2 fun u H3 => r x l u H3 Q
theorem Ztf {r : V -> Option Int -> Option Int -> Hp -> VK -> Prop} (hr : SlR X r) (he : PE X e te) (hl : PO X lo tl) (hu : PO X hi th) : PE X (.Subscript e (.Slice lo hi none p2) pos) (tSl r te tl th) := by
 intro pins s σ H Q I h
 refine Subscript_ (thn (he pins s σ H _ I h) fun v s1 zz => ?_)
 obtain ⟨x, H1, I1, r1, q1⟩ := zz
 refine wpAny_Slice (thn (hl pins s1 σ H1 _ I1 q1) fun vl s2 ⟨l, H2, I2, pl, q2⟩ => thn (hu pins s2 σ H2 _ I2 q2) fun vu s3 zz => ?_)
 obtain ⟨u, H3, I3, pu, q3⟩ := zz
 rw [evalPart_none]
 refine wpAny_pure ?_
 have I4 : Inv X pins σ H3 { s3 with heap := s3.heap.push { cls := .type "slice", data := .fields #[vl, vu, .none] } } := I3.kept (t' := s3.toks) fun b ob q => Heap.get?_push_of_some _ q
 obtain ⟨T, id, hT, ht, hg⟩ := hr pins { s3 with heap := s3.heap.push { cls := .type "slice", data := .fields #[vl, vu, .none] } } σ H3 x v vl vu l u s3.heap.objs.size Q I4 r1 (Heap.IsSliceOf.new ..) pl pu q3
 show wpAny (model X.prog X.w) X.A (subscriptTail e (.Slice lo hi none p2) v (.ref s3.heap.objs.size)) (EP X pins σ Q) X.xe { s3 with heap := s3.heap.push { cls := .type "slice", data := .fields #[vl, vu, .none] } }
 exact tail_any (ops := [.ref s3.heap.objs.size, v]) ht hT hg (by with_unfolding_all rfl)
noncomputable def Zu5 (xs : List V) (lo hi : Option Int) : List V := (xs.drop (HT.sIx xs.length 0 lo)).take (HT.sIx xs.length xs.length hi - HT.sIx xs.length 0 lo)
theorem Zdv (xs : List V) (lo hi : Option Int) : (Zu5 xs lo hi).length ≤ xs.length := by
 unfold Zu5
 rw [List.length_take, List.length_drop]
 omega
noncomputable def rSlT (K : PySem.W.Frag) : V -> Option Int -> Option Int -> Hp -> VK -> Prop := fun x lo hi H Q => ∃ a xs, x = .ref a ∧ SqT K H a xs ∧
 ¬ (HT.sIx xs.length 0 lo = 0 ∧ HT.sIx xs.length xs.length hi = xs.length) ∧ ∀ p, H p = none -> Q (.ref p) (upd H p (.tup (Zu5 xs lo hi)))
theorem Yat : SlR X (rSlT X.K) := by
 intro pins s σ H x v vl vu lo hi sl Q I rx hs pl pu h
 obtain ⟨a, xs, rfl, hx, hw, q⟩ := h
 cases rx
 obtain ⟨its, r, ht, hz⟩ := I.tuple hx
 have hlen : its.toArray.size = xs.length := by rw [List.size_toArray]; exact r.length.symm
 refine ⟨"tuple", _, PyProof.Rows.slot_tuple_getitem.lookup, ht.typeIs, ?_⟩
 refine HT.getItem_tuple_cut ht hs pl pu (by rw [hlen]; exact hw) ?_ (by rw [hlen]; exact hz)
 rw [hlen]
 refine ⟨.ref s.heap.objs.size, _, I.laid (t' := s.toks) (o := .tup (Zu5 xs lo hi)) (fun b ob q => Heap.get?_push_of_some _ q) (Nat.le_refl _) ?_, rfl, q _ (I.hok.fresh (Nat.le_refl _))⟩
 exact ⟨Nat.le_trans (Zdv xs lo hi) hz, _, (r.drop (HT.sIx xs.length 0 lo)).take (HT.sIx xs.length xs.length hi - HT.sIx xs.length 0 lo), Zj6.new _ _⟩
noncomputable def rCatT (K : PySem.W.Frag) : R2 := fun x y H Q => ∃ a b xs ys, x = .ref a ∧ y = .ref b ∧ SqT K H a xs ∧ SqT K H b ys ∧ xs ≠ [] ∧ xs.length + ys.length ≤ sizeLine ∧
 (ys = [] -> Q (.ref a) H) ∧ (ys ≠ [] -> ∀ p, H p = none -> Q (.ref p) (upd H p (.tup (xs ++ ys))))
theorem Zbf.nil_iff {xs : List V} {us : List Value} (r : Zbf xs us) : us = [] ↔ xs = [] := by
 cases r with
 | nil => simp
 | cons _ _ => simp
theorem Zpc : OpR X (binaryOp .Add) (rCatT X.K) := by
 intro pins s σ H x y v u Q I rx ry h
 obtain ⟨a, b, xs, ys, rfl, rfl, ha, hb, hx, hz, q1, q2⟩ := h
 cases rx
 cases ry
 obtain ⟨its, r1, p1, _⟩ := I.tuple ha
 obtain ⟨its2, r2, p2, _⟩ := I.tuple hb
 refine HT.cat_tup p1 p2 (fun z => hx (r1.nil_iff.mp z)) (fun z => ⟨.ref a, H, I, rfl, q1 (r2.nil_iff.mp z)⟩) (fun z => ?_) (by rw [← r1.length, ← r2.length]; exact hz)
 refine ⟨.ref s.heap.objs.size, _, I.laid (t' := s.toks) (o := .tup (xs ++ ys)) (fun b ob q => Heap.get?_push_of_some _ q) (Nat.le_refl _) ?_, rfl, q2 (fun w => z (r2.nil_iff.mpr w)) _ (I.hok.fresh (Nat.le_refl _))⟩
 exact ⟨by rw [List.length_append]; exact hz, _, r1.append r2, Zj6.new _ _⟩
end
noncomputable def ixN (n : Nat) (i : Int) : Option Nat := if 0 ≤ i then (if i < n then some i.toNat else none) else if -(n : Int) ≤ i then some (i + n).toNat else none
noncomputable def atI {α : Type} (xs : List α) (i : Int) : Option α := (ixN xs.length i).bind fun j => xs[j]?
theorem Zp9 {n : Nat} {i : Int} {j : Nat} (h : ixN n i = some j) : seqIndex? i n = some j ∧ j < n ∧ -(n : Int) ≤ i ∧ i < n := by
 unfold ixN at h
 by_cases h0 : 0 ≤ i
 ·rw [if_pos h0] at h
  by_cases h1 : i < n
  ·rw [if_pos h1] at h
   have e : i.toNat = j := Option.some.inj h
   exact ⟨by rw [seqIndex_of h0 h1, e], by omega, by omega, h1⟩
  ·rw [if_neg h1] at h; cases h
 ·rw [if_neg h0] at h
  by_cases h1 : -(n : Int) ≤ i
  ·rw [if_pos h1] at h
   have e : (i + n).toNat = j := Option.some.inj h
   exact ⟨by rw [seqIndex_neg (by omega) h1, e], by omega, h1, by omega⟩
  ·rw [if_neg h1] at h; cases h
theorem Zqb {α : Type} {xs : List α} {i : Int} {v : α} (h : atI xs i = some v) : ∃ j, seqIndex? i xs.length = some j ∧ xs[j]? = some v ∧ j < xs.length ∧ -(xs.length : Int) ≤ i ∧ i < xs.length := by
 unfold atI at h
 cases e : ixN xs.length i with
 | none => rw [e] at h; cases h
 | some j =>
  rw [e] at h
  obtain ⟨h1, h2, h3, h4⟩ := Zp9 e
  exact ⟨j, h1, h, h2, h3, h4⟩
theorem Zcc {α : Type} {xs : List α} {j : Nat} {v : α} (h : xs[j]? = some v) : atI xs (j : Int) = some v := by
 have hj : j < xs.length := (List.getElem?_eq_some_iff.mp h).1
 have e : ixN xs.length (j : Int) = some j := by
  unfold ixN
  rw [if_pos (by omega), if_pos (by omega)]; simp
 unfold atI; rw [e]; exact h
noncomputable def Zqg (b : Expr) : Prop := ∀ o i, subscripted b false o i = operate [o, i] (getItem o i)
noncomputable def IxR (X : Cx) (r : R2) : Prop :=
 ∀ (value slice : Expr) (pins : List (Addr × Obj)) (s : Shared) (σ : St) (H : Hp) (x y : V) (v u : Value) (Q : VK), Inv X pins σ H s -> Zbv x v -> Zbv y u -> r x y H Q →
  subscripted slice false v u = operate [v, u] (getItem v u) -> wpAny (model X.prog X.w) X.A (subscriptTail value slice v u) (EP X pins σ Q) X.xe s
noncomputable def MtR (X : Cx) (id : String) (r : V -> List V -> Hp -> VK -> Prop) : Prop :=
 ∀ (pins : List (Addr × Obj)) (s : Shared) (σ : St) (H : Hp) (x : V) (xs : List V) (v : Value) (us : List Value) (Q : VK), Inv X pins σ H s -> Zbv x v -> Zbf xs us -> r x xs H Q →
  wpAny (model X.prog X.w) X.A (call (.builtin id) (v :: us)) (EP X pins σ Q) X.xe s
section
variable {X : Cx} {a b : Expr} {ta tb : TE} {pos : Pos}
theorem pe_ix {r : R2} (hr : IxR X r) (ha : PE X a ta) (hb : PE X b tb) (hs : Zqg b) : PE X (.Subscript a b pos) (tOp r ta tb) := by
 intro pins s σ H Q I h
 exact Subscript_ (binT ha hb I h fun v u s2 x y H2 I2 rx ry q => hr a b pins s2 σ H2 x y v u Q I2 rx ry q (hs _ _))
noncomputable def rIxL (K : PySem.W.Frag) : R2 := fun x y H Q => ∃ p xs i v, x = .ref p ∧ y = .int i ∧ SqL K H p xs ∧ atI xs i = some v ∧ Q v H
noncomputable def rIxT (K : PySem.W.Frag) : R2 := fun x y H Q => ∃ p xs i v, x = .ref p ∧ y = .int i ∧ SqT K H p xs ∧ atI xs i = some v ∧ Q v H
theorem Zxh : IxR X (rIxL X.K) := by
 intro value slice pins s σ H x y v u Q I rx ry h hs
 obtain ⟨p, xs, i, z, rfl, rfl, hq, he, q⟩ := h
 cases rx
 obtain ⟨t, rfl⟩ := ry
 obtain ⟨its, r, pl, hz⟩ := I.list hq
 obtain ⟨j, h1, h2, h3, h4, h5⟩ := Zqb he
 obtain ⟨w, ew, rw'⟩ := r.get h2
 have hl := r.length
 have hn := Ziq
 have fin : EP X pins σ Q w s := ⟨z, H, I, rw', q⟩
 by_cases h0 : 0 ≤ i
 ·have hj : i.toNat = j := by
   rw [seqIndex_of h0 h5] at h1
   exact Option.some.inj h1
  exact item_listR pl.isList h0 (by omega) (by rw [hj]; simpa using ew) fin hs
 ·have hj : (i + (its.toArray.size : Int)).toNat = j := by
   rw [seqIndex_neg (by omega) h4] at h1
   rw [List.size_toArray, ← hl]
   exact Option.some.inj h1
  exact subscriptTail_builtinR (x := w) pl.isList.typeIs slot_list_getitem.lookup
   (wpAny_getItem_list_neg (Q := fun r s' => r = w ∧ EP X pins σ Q r s') pl.isList (by omega) (by rw [List.size_toArray] <;> omega) (by omega) (by rw [hj]; simpa using ew) ⟨rfl, fin⟩) hs
theorem Yag : IxR X (rIxT X.K) := by
 intro value slice pins s σ H x y v u Q I rx ry h hs
 obtain ⟨p, xs, i, z, rfl, rfl, hq, he, q⟩ := h
 cases rx
 obtain ⟨t, rfl⟩ := ry
 obtain ⟨its, r, pl, hz⟩ := I.tuple hq
 obtain ⟨j, h1, h2, h3, h4, h5⟩ := Zqb he
 obtain ⟨w, ew, rw'⟩ := r.get h2
 have hl := r.length
 have hn := Ziq
 have fin : EP X pins σ Q w s := ⟨z, H, I, rw', q⟩
 exact subscriptTail_builtinR (x := w) pl.typeIs slot_tuple_getitem.lookup
  (getItem_tuple (j := j) (Q := fun r s' => r = w ∧ EP X pins σ Q r s') pl (by omega) (by omega) (by rw [List.size_toArray, ← hl]; exact h1) (by simpa using ew) ⟨rfl, fin⟩) hs
theorem Zn8 (its : List Value) (n j : Nat) (u : Value) : Obj.mapSeq (·.setIfInBounds j u) { cls := .type "list", data := .seq its.toArray n } = { cls := .type "list", data := .seq (its.set j u).toArray n } := by
 simp [Obj.mapSeq]
theorem Inv.lst {pins : List (Addr × Obj)} {σ : St} {H : Hp} {s : Shared} {p : Addr} {xs : List V} (I : Inv X pins σ H s) (h : H p = some (.lst xs)) :
  ∃ (its : List Value) (n : Nat), Zbf xs its ∧ s.heap.get? p = some { cls := .type "list", data := .seq its.toArray n } ∧ xs.length ≤ sizeLine := by
 obtain ⟨z, its, n, r, e⟩ := I.hok p _ h
 exact ⟨its, n, r, e, z⟩
theorem Inv.lstUpd {pins : List (Addr × Obj)} {σ : St} {H : Hp} {s : Shared} {p : Addr} {xs ys : List V} {its its' : List Value} {n n' : Nat} {f : Obj -> Obj} (I : Inv X pins σ H s) (h : H p = some (.lst xs))
  (ho : s.heap.get? p = some { cls := .type "list", data := .seq its.toArray n }) (hf : f { cls := .type "list", data := .seq its.toArray n } = { cls := .type "list", data := .seq its'.toArray n' }) (r : Zbf ys its') (hz : ys.length ≤ sizeLine) (t : Nat) :
  Inv X pins σ (upd H p (.lst ys)) { s with heap := s.heap.update p f, toks := t } := by
 have e : (s.heap.update p f).get? p = some { cls := .type "list", data := .seq its'.toArray n' } := by
  rw [Heap.get?_update_self f ho (by rw [hf] <;> rfl), hf]
 refine I.write (x := p) (e := p) (by rw [h]; trivial) (.inl rfl) (fun b u hb q => (Heap.get?_update_other _ _ (Ne.symm hb)).trans q) ⟨_, e⟩ ?_
 exact ⟨hz, its', n', r, e⟩
noncomputable def rSetL : V -> V -> V -> Hp -> (Hp -> Prop) -> Prop := fun o i v H Q => ∃ p xs k j, o = .ref p ∧ i = .int k ∧ H p = some (.lst xs) ∧ ixN xs.length k = some j ∧ Q (upd H p (.lst (xs.set j v)))
theorem Zsj : PSet X rSetL := by
 intro pins s σ H o i v ov iv u Q I ro ri rv h
 obtain ⟨p, xs, k, j, rfl, rfl, hp, hj, q⟩ := h
 cases ro
 obtain ⟨t, rfl⟩ := ri
 obtain ⟨its, n, r, ho, hz⟩ := I.lst hp
 obtain ⟨h1, h2, h3, h4⟩ := Zp9 hj
 have hl := r.length
 have hn := Ziq
 have I' : Inv X pins σ (upd H p (.lst (xs.set j v))) { s with heap := s.heap.update p (Obj.mapSeq (·.setIfInBounds j u)) } :=
  I.lstUpd hp ho (Zn8 its n j u) (r.set rv j) (by rw [List.length_set]; exact hz) s.toks
 by_cases h0 : 0 ≤ k
 ·have hk : k.toNat = j := by
   rw [seqIndex_of h0 h4] at h1
   exact Option.some.inj h1
  exact PySem.W.ki_setAt ho h0 (by omega) (by rw [List.size_toArray, ← hl]; exact h4) (by rw [hk]; exact ⟨_, I', q⟩)
 ·have hk : (k + (its.toArray.size : Int)).toNat = j := by
   rw [seqIndex_neg (by omega) h3] at h1
   rw [List.size_toArray, ← hl]
   exact Option.some.inj h1
  exact PySem.W.ki_setBack ho (by omega) (by rw [List.size_toArray, ← hl]; exact h3) (by omega) (by rw [hk]; exact ⟨_, I', q⟩)
theorem Zk1 (lo hi : Option Int) (n : Nat) : (sliceBounds lo hi none n).1 = ((HT.sIx n 0 lo : Nat) : Int) ∧ (sliceBounds lo hi none n).2.1 = ((HT.sIx n n hi : Nat) : Int) ∧ (sliceBounds lo hi none n).2.2 = 1 := by
 refine ⟨?_, ?_, rfl⟩
 ·cases lo with
  | none => simp [sliceBounds, HT.sIx]
  | some i =>
   simp only [sliceBounds, HT.sIx, Option.getD_none, show (1 : Int) > 0 by decide, if_true]
   by_cases h : i < 0
   ·simp only [h, if_true] <;> omega
   ·simp only [h, if_false] <;> omega
 ·cases hi with
  | none => simp [sliceBounds, HT.sIx]
  | some i =>
   simp only [sliceBounds, HT.sIx, Option.getD_none, show (1 : Int) > 0 by decide, if_true]
   by_cases h : i < 0
   ·simp only [h, if_true] <;> omega
   ·simp only [h, if_false] <;> omega
theorem Zjs (its : List Value) (lo hi : Option Int) : slicePick its.toArray lo hi none = ((its.drop (HT.sIx its.length 0 lo)).take (HT.sIx its.length its.length hi - HT.sIx its.length 0 lo)).toArray := by
 obtain ⟨h1, h2, h3⟩ := Zk1 lo hi its.toArray.size
 unfold slicePick
 rw [h1, h2, h3]
 simp only [sliceRange_one, pick_run, List.size_toArray] <;> rfl
noncomputable def rSlL (K : PySem.W.Frag) : V -> Option Int -> Option Int -> Hp -> VK -> Prop := fun x lo hi H Q => ∃ a xs, x = .ref a ∧ SqL K H a xs ∧ ∀ p, H p = none -> Q (.ref p) (upd H p (.lst (Zu5 xs lo hi)))
theorem Zx3 : SlR X (rSlL X.K) := by
 intro pins s σ H x v vl vu lo hi sl Q I rx hs pl pu h
 obtain ⟨a, xs, rfl, hx, q⟩ := h
 cases rx
 obtain ⟨its, r, ht, hz⟩ := I.list hx
 have hlen := r.length
 refine ⟨"list", _, slot_list_getitem.lookup, ht.isList.typeIs, ?_⟩
 refine wpAny_getItem_list_slice ht.isList hs pl pu .none (by simp) ?_ (by rw [List.size_toArray] <;> omega)
 rw [Zjs, ← hlen]
 refine ⟨.ref s.heap.objs.size, _, I.laid (t' := s.toks) (o := .lst (Zu5 xs lo hi)) (fun b ob q => Heap.get?_push_of_some _ q) (Nat.le_refl _) ?_, rfl, q _ (I.hok.fresh (Nat.le_refl _))⟩
 exact ⟨Nat.le_trans (Zdv xs lo hi) hz, _, 0, (r.drop (HT.sIx xs.length 0 lo)).take (HT.sIx xs.length xs.length hi - HT.sIx xs.length 0 lo), Heap.get?_push_size _ rfl⟩
theorem Zk7 : Zfl X (.builtin "len") (fun xs H Q => ∃ p ys, xs = [.ref p] ∧ (SqL X.K H p ys ∨ SqT X.K H p ys) ∧ Q (.int ys.length) H) := by
 intro pins s σ H xs us Q I r h
 obtain ⟨p, ys, rfl, hq, q⟩ := h
 obtain ⟨u, rfl, rx⟩ := Zg0 r
 cases rx
 have hn := Ziq
 rcases hq with hq | hq
 ·obtain ⟨its, r', pl, hz⟩ := I.list hq
  have hlen := r'.length
  exact Calls.call_len_list pl.isList (by simp only [List.size_toArray] <;> omega) ⟨.int ys.length, H, I.tok _, ⟨s.toks + 1, by rw [List.size_toArray, hlen]⟩, q⟩
 ·obtain ⟨its, r', pl, hz⟩ := I.tuple hq
  have hlen := r'.length
  exact len_tuple pl (by simp only [List.size_toArray] <;> omega) ⟨.int ys.length, H, I.tok _, ⟨s.toks + 1, by rw [List.size_toArray, hlen]⟩, q⟩
theorem Zk2 : Zfl X (.builtin "len") (fun xs H Q => ∃ z, xs = [.str z] ∧ z.length ≤ sizeLine ∧ Q (.int z.length) H) := by
 intro pins s σ H xs us Q I r h
 obtain ⟨z, rfl, hz, q⟩ := h
 obtain ⟨u, rfl, t, rfl⟩ := Zg0 r
 have hn := Ziq
 exact len_str (by omega) ⟨.int z.length, H, I.tok _, ⟨_, rfl⟩, q⟩
theorem Zkv : Zfl X (.type "list") (fun xs H Q => ∃ p ys, xs = [.ref p] ∧ (SqL X.K H p ys ∨ SqT X.K H p ys) ∧ ∀ l, H l = none → Q (.ref l) (upd H l (.lst ys))) := by
 intro pins s σ H xs us Q I r h
 obtain ⟨p, ys, rfl, hq, q⟩ := h
 obtain ⟨u, rfl, rx⟩ := Zg0 r
 cases rx
 have fin : ∀ (its : List Value), Zbf ys its -> ys.length ≤ sizeLine -> ∀ (h' : Heap) (c' : Nat), (∀ b o', s.heap.get? b = some o' -> h'.get? b = some o') →
   h'.get? s.heap.objs.size = some { cls := .type "list", dict := none, data := .seq its.toArray c', slots := #[] } → EP X pins σ Q (.ref s.heap.objs.size) { s with heap := h' } := fun its r' hz h' c' kp e =>
  ⟨.ref s.heap.objs.size, _, I.laid (t' := s.toks) kp (Nat.le_refl _) (show Zcr X.prog X.w _ h' _ (.lst ys) from ⟨hz, its, c', r', e⟩), rfl, q _ (I.hok.fresh (Nat.le_refl _))⟩
 rcases hq with hq | hq
 ·obtain ⟨its, r', pl, hz⟩ := I.list hq
  have hlen := r'.length
  obtain ⟨o, ho, hc, n, hd⟩ := pl.isList
  exact call_list_seq p (.inl rfl) ho hc hd (fun h' c' kp e => fin its r' hz h' c' kp e) (by simp only [List.size_toArray] <;> omega)
 ·obtain ⟨its, r', pl, hz⟩ := I.tuple hq
  have hlen := r'.length
  obtain ⟨o, ho, hc, n, hd⟩ := pl
  exact call_list_seq p (.inr rfl) ho hc hd (fun h' c' kp e => fin its r' hz h' c' kp e) (by simp only [List.size_toArray] <;> omega)
theorem Zi5 : Zfl X (.type "tuple") (fun xs H Q => ∃ p ys, xs = [.ref p] ∧ ((SqL X.K H p ys ∧ ∀ l, H l = none → Q (.ref l) (upd H l (.tup ys))) ∨ (SqT X.K H p ys ∧ Q (.ref p) H))) := by
 intro pins s σ H xs us Q I r h
 obtain ⟨p, ys, rfl, h⟩ := h
 obtain ⟨u, rfl, rx⟩ := Zg0 r
 cases rx
 rcases h with ⟨hq, q⟩ | ⟨hq, q⟩
 ·obtain ⟨its, r', pl, hz⟩ := I.list hq
  have hlen := r'.length
  refine call_tuple_list pl.isList (fun h' kp => ?_) (by simp only [List.size_toArray] <;> omega)
  have I1 : Inv X pins σ H { s with heap := h' } := I.kept (t' := s.toks) kp
  have I2 : Inv X pins σ (upd H h'.objs.size (.tup ys)) { s with heap := h'.push { cls := .type "tuple", data := .seq its.toArray } } :=
   I1.laid (t' := s.toks) (fun b o e => Heap.get?_push_of_some _ e) (Nat.le_refl _) (show Zcr X.prog X.w _ _ _ (.tup ys) from ⟨hz, its, r', Zj6.new _ _⟩)
  exact ⟨.ref h'.objs.size, _, I2, rfl, q _ (I1.hok.fresh (Nat.le_refl _))⟩
 ·obtain ⟨its, r', pl, hz⟩ := I.tuple hq
  exact call_tuple_same pl ⟨.ref p, H, I, rfl, q⟩
noncomputable def tyV (K : PySem.W.Frag) (T : String) (x : V) (H : Hp) : Prop := match x with
 | .str _ => T = "str"
 | .int _ => T = "int"
 | .ref p => (T = "list" ∧ ∃ xs, SqL K H p xs) ∨ (T = "tuple" ∧ ∃ o, K.lookup p = some o ∧ o.cls = .type "tuple" ∧ o.dict = none) ∨
   (T = "dict" ∧ ((∃ kvs, H p = some (.dK kvs)) ∨ ∃ kvs, H p = some (.dT kvs))) ∨ (T = "set" ∧ ∃ S n, H p = some (.set S n))
 | _ => False
theorem Yaz {pins : List (Addr × Obj)} {σ : St} {H : Hp} {s : Shared} {T : String} {x : V} {v : Value} (I : Inv X pins σ H s) (r : Zbv x v) (ty : tyV X.K T x H) :
  s.TypeIs v T ∧ ∀ a, v = .ref a -> ∃ ob, s.heap.get? a = some ob ∧ ob.dict = none := by
 cases x with
 | str z =>
  obtain ⟨t, rfl⟩ := r
  cases (show T = "str" from ty)
  exact ⟨typeIs_str s z t, fun _ e => nomatch e⟩
 | int i =>
  obtain ⟨t, rfl⟩ := r
  cases (show T = "int" from ty)
  exact ⟨typeIs_int s i t, fun _ e => nomatch e⟩
 | ref p =>
  cases r
  rcases ty with ⟨rfl, xs, hq⟩ | ⟨rfl, o, hk, hc, hd⟩ | ⟨rfl, hk⟩ | ⟨rfl, S, n, hk⟩
  ·obtain ⟨its, _, pl, _⟩ := I.list hq
   refine ⟨pl.isList.typeIs, fun a e => ?_⟩
   cases e
   obtain ⟨o, n, e, c, hd, _⟩ := pl
   exact ⟨o, e, hd⟩
  ·refine ⟨⟨o, I.kIn p o hk, hc⟩, fun a e => ?_⟩
   cases e
   exact ⟨o, I.kIn _ o hk, hd⟩
  ·have z : ∃ o, s.heap.get? p = some o ∧ o.ExactDict := by
    rcases hk with ⟨kvs, hk⟩ | ⟨kvs, hk⟩
    ·obtain ⟨_, _, _, _, o, _, _, e, ex, _⟩ := I.hok p _ hk
     exact ⟨o, e, ex⟩
    ·obtain ⟨_, _, _, _, o, _, _, e, ex, _⟩ := I.hok p _ hk
     exact ⟨o, e, ex⟩
   obtain ⟨o, e, ex⟩ := z
   refine ⟨⟨o, e, ex.1⟩, fun a e2 => ?_⟩
   cases e2
   exact ⟨o, e, ex.2.1⟩
  ·obtain ⟨o, _, _, _, e, ex, _⟩ := I.hok p _ hk
   refine ⟨⟨o, e, ex.1⟩, fun a e2 => ?_⟩
   cases e2
   exact ⟨o, e, ex.2.1⟩
 | _ => exact False.elim ty
noncomputable def tBM (K : PySem.W.Frag) (T : String) (r : V -> List V -> Hp -> VK -> Prop) (to : TE) (t : TA) : TE := fun σ H Q => to σ H fun x H1 => tyV K T x H1 ∧ t σ H1 fun xs H2 => r x xs H2 Q
variable {o e : Expr} {es : List Expr} {to : TE} {t : TA} {name : Str} {apos cpos : Pos} {T id : String} {r : V -> List V -> Hp -> VK -> Prop}
theorem pe_bm (pa : PlainAttrs T) (slot : Slot T name id) (hty : typeOf (.builtin id) = pure (.type "method_descriptor")) (hm : MtR X id r) (ho : PE X o to) (ha : PA X (e :: es) t)
  (hbase : attributeBase o name X.env (eval o X.env) = eval o X.env := by rfl)
  (hfew : ((backTo cpos (starEach (e :: es) X.env)).all (fun x => !x.1) && (backToKw cpos (keywordEach [] X.env)).all (fun x => x.1.isSome)
   && decide ((e :: es).length + ([] : List Keyword).length + (if ([] : List Keyword).isEmpty then 0 else 1) < 30)) = true := by rfl)
  (hline : (apos.endLine == cpos.line) = true := by rfl) (hs : starEach (e :: es) X.env = (false, eval e X.env) :: starEach es X.env := by rfl) (hplain : (backTo cpos (starEach es X.env)).any (·.1) = false := by rfl) :
  PE X (.Call (.Attribute o name apos) (e :: es) [] cpos) (tBM X.K T r to t) := by
 intro pins s σ H Q I h
 refine wpAny_Call_method_late hbase hfew hline rfl (thn (ho pins s σ H _ I h) fun v s1 zz => ?_)
 obtain ⟨x, H1, I1, r1, ty, q1⟩ := zz
 obtain ⟨h1, h2⟩ := Yaz I1 r1 ty
 refine ⟨T, id, pa, slot, hty, h1, h2, ?_⟩
 have hA := ha cpos pins s1 σ H1 _ I1 q1
 rw [hs] at hA ⊢
 refine Calls.callWith_builtin (by show (false || (backTo cpos (starEach es X.env)).any (·.1)) = false; rw [hplain] <;> rfl) (Calls.evalArgs_plain ?_)
 exact thn hA fun us s2 ⟨vs, H2, I2, r2, q2⟩ => hm pins s2 σ H2 x vs v us Q I2 r1 r2 q2
end
noncomputable def MtM (X : Cx) (id : String) (r : V -> List V -> Hp -> VK -> Prop) : Prop :=
 ∀ (pins : List (Addr × Obj)) (s : Shared) (σ : St) (H : Hp) (x : V) (xs : List V) (v : Value) (us : List Value) (Q : VK), Inv X pins σ H s -> Zbv x v -> Zbf xs us -> r x xs H Q →
  wpAny (model X.prog X.w) X.A (call (.builtin id) (v :: us)) (EP X pins σ Q) X.xe s
theorem Zbf.one : ∀ {x : V} {us : List Value}, Zbf [x] us -> ∃ u, us = [u] ∧ Zbv x u := by
 intro x us h
 cases h with
 | cons r t => cases t; exact ⟨_, rfl, r⟩
theorem Zbf.eraseIdx : ∀ {xs : List V} {us : List Value} (i : Nat), Zbf xs us -> Zbf (xs.eraseIdx i) (us.eraseIdx i)
 | _, _, _, .nil => .nil
 | _, _, 0, .cons _ t => t
 | _, _, i + 1, .cons r t => .cons r (Zbf.eraseIdx i t)
theorem Zbf.rep {xs : List V} {us : List Value} (h : Zbf xs us) : ∀ k : Nat, Zbf (List.replicate k xs).flatten (List.replicate k us).flatten
 | 0 => .nil
 | k + 1 => by
  rw [List.replicate_succ, List.replicate_succ, List.flatten_cons, List.flatten_cons]
  exact Zbf.append h (Zbf.rep h k)
theorem Zky {α : Type} : ∀ (l : List α) (i : Nat), (l.eraseIdx i).length ≤ l.length
 | [], _ => Nat.le_refl _
 | _ :: _, 0 => Nat.le_succ _
 | _ :: r, i + 1 => Nat.succ_le_succ (Zky r i)
theorem Zhi (its : List Value) : ∀ (k : Nat) (acc : List Value),
  List.foldl (fun x1 x2 => x1 ++ x2) acc.toArray (List.replicate k its.toArray) = (acc ++ (List.replicate k its).flatten).toArray
 | 0, acc => by simp
 | k + 1, acc => by
  have e : acc.toArray ++ its.toArray = (acc ++ its).toArray := by simp
  have e2 : (acc ++ its) ++ (List.replicate k its).flatten = acc ++ (List.replicate (k + 1) its).flatten := by
   rw [List.replicate_succ, List.flatten_cons, List.append_assoc]
  rw [← e2, ← Zhi its k (acc ++ its), ← e, List.replicate_succ, List.foldl_cons]
section
variable {X : Cx} {pins : List (Addr × Obj)} {σ : St} {H : Hp} {s : Shared} {l b : Addr} {xs ys zs : List V}
theorem Inv.lset {its its' : List Value} {n : Nat} {f : Array Value -> Array Value} {t' : Nat} (I : Inv X pins σ H s) (hH : H l = some (.lst xs))
  (e : s.heap.get? l = some { cls := .type "list", data := .seq its.toArray n }) (hf : f its.toArray = its'.toArray) (hv : Zbf ys its') (hz : ys.length ≤ sizeLine) :
  Inv X pins σ (upd H l (.lst ys)) { s with heap := s.heap.update l (Obj.mapSeq f), toks := t' } := by
 have q := PySem.IsL.update e f
 rw [hf] at q
 refine I.write (x := l) (e := l) (by rw [hH]; exact trivial) (.inl rfl) (fun b' u hb hu => (Heap.get?_update_other s.heap (Obj.mapSeq f) (Ne.symm hb)).trans hu) ⟨_, q⟩ ?_
 exact ⟨hz, its', _, hv, q⟩
theorem Inv.lnew {its : List Value} {t' : Nat} (I : Inv X pins σ H s) (hv : Zbf ys its) (hz : ys.length ≤ sizeLine) :
  Inv X pins σ (upd H s.heap.objs.size (.lst ys)) { s with heap := s.heap.push { cls := .type "list", data := .seq its.toArray }, toks := t' } :=
 I.laid (fun _ _ q => Heap.get?_push_of_some _ q) (Nat.le_refl _) ⟨hz, its, 0, hv, Heap.get?_push_size _ rfl⟩
theorem Inv.fresh (I : Inv X pins σ H s) : H s.heap.objs.size = none := I.hok.fresh (Nat.le_refl _)
theorem Inv.lstM (I : Inv X pins σ H s) (hH : H l = some (.lst xs)) : xs.length ≤ sizeLine ∧ ∃ (its : List Value) (n : Nat), Zbf xs its ∧ xs.length = its.length ∧ s.heap.get? l = some { cls := .type "list", data := .seq its.toArray n } := by
 obtain ⟨z, its, n, r, e⟩ := I.hok l _ hH
 exact ⟨z, its, n, r, r.length, e⟩
theorem Ztq {n : Nat} (h : n ≤ sizeLine) : Builtin.List.listTooLong n = false := by
 unfold Builtin.List.listTooLong
 exact decide_eq_false (by omega)
end
section
variable {X : Cx}
noncomputable def Zu8 : V -> List V -> Hp -> VK -> Prop := fun x vs H Q => ∃ l xs y, x = .ref l ∧ vs = [y] ∧ H l = some (.lst xs) ∧ xs.length < sizeLine ∧ Q .non (upd H l (.lst (xs ++ [y])))
theorem Zh9 : MtM X "list.append" Zu8 := by
 intro pins s σ H x vs v us Q I rx rv h
 obtain ⟨l, xs, y, rfl, rfl, hH, hz, q⟩ := h
 cases rx
 obtain ⟨u, rfl, ru⟩ := rv.one
 obtain ⟨z, its, n, r, hl, e⟩ := I.lstM hH
 refine call_meets F.slot_list_append ⟨_, e, rfl⟩ F.entry_list_append (F.args_list_append_2 _ _) (PySem.list_append l its.toArray n u (by rw [List.size_toArray]; omega)) ⟨e, ?_⟩
 refine ⟨.non, _, I.lset (its' := its ++ [u]) hH e (by simp) (r.append (.cons ru .nil)) ?_, rfl, q⟩
 rw [List.length_append, List.length_singleton]
 omega
noncomputable def Ya1 : V -> List V -> Hp -> VK -> Prop := fun x vs H Q => ∃ l xs i k y, x = .ref l ∧ vs = [.int i] ∧ H l = some (.lst xs) ∧ -(2 ^ 63) ≤ i ∧ i < 2 ^ 63 ∧ seqIndex? i xs.length = some k ∧ xs[k]? = some y ∧ Q y (upd H l (.lst (xs.eraseIdx k)))
theorem Zso : MtM X "list.pop" Ya1 := by
 intro pins s σ H x vs v us Q I rx rv h
 obtain ⟨l, xs, i, k, y, rfl, rfl, hH, h1, h2, hk, hy, q⟩ := h
 cases rx
 obtain ⟨u, rfl, ru⟩ := rv.one
 obtain ⟨t, rfl⟩ := ru
 obtain ⟨z, its, n, r, hl, e⟩ := I.lstM hH
 obtain ⟨w, hw, rw'⟩ := r.get hy
 refine call_meets F.slot_list_pop ⟨_, e, rfl⟩ F.entry_list_pop (F.args_list_pop_2 _ _)
  (MeetsSeq.list_pop_at l its.toArray n i t k w (fitsIndex_both h1 h2) (by rw [List.size_toArray, ← hl]; exact hk) (by rw [← Array.getElem?_toList]; exact hw) (by rw [List.size_toArray]; omega)) ⟨e, ?_⟩
 refine ⟨y, _, I.lset (its' := its.eraseIdx k) hH e ?_ (r.eraseIdx k) ?_, rw', q⟩
 ·show its.toArray.eraseIdxIfInBounds k = (its.eraseIdx k).toArray
  rw [List.eraseIdxIfInBounds_toArray]
 ·have := Zky xs k
  omega
noncomputable def rCat : R2 := fun x y H Q => ∃ l b xs zs, x = .ref l ∧ y = .ref b ∧ H l = some (.lst xs) ∧ H b = some (.lst zs) ∧ xs.length + zs.length ≤ sizeLine ∧ ∀ p, H p = none -> Q (.ref p) (upd H p (.lst (xs ++ zs)))
theorem Zyv : OpR X (binaryOp .Add) rCat := by
 intro pins s σ H x y v u Q I rx ry h
 obtain ⟨l, b, xs, zs, rfl, rfl, hH, hB, hz, q⟩ := h
 cases rx
 cases ry
 obtain ⟨z, its, n, r, hl, e⟩ := I.lstM hH
 obtain ⟨z2, its2, n2, r2, hl2, e2⟩ := I.lstM hB
 refine PySem.P.add_list e e2 ?_ (by rw [List.size_toArray, List.size_toArray]; omega)
 have ea : its.toArray ++ its2.toArray = (its ++ its2).toArray := by simp
 rw [ea]
 exact ⟨.ref _, _, I.lnew (t' := s.toks) (r.append r2) (by rw [List.length_append]; omega), rfl, q _ I.fresh⟩
noncomputable def rRep : R2 := fun x y H Q => ∃ l k xs, x = .ref l ∧ y = .int k ∧ H l = some (.lst xs) ∧ -(2 ^ 63) ≤ k ∧ k < 2 ^ 63 ∧ xs.length * k.toNat ≤ sizeLine ∧
 ∀ p, H p = none -> Q (.ref p) (upd H p (.lst (List.replicate k.toNat xs).flatten))
theorem Zl9 {α : Type} (xs : List α) (k : Nat) : (List.replicate k xs).flatten.length = k * xs.length := by
 induction k with
 | zero => simp
 | succ k ih => rw [List.replicate_succ, List.flatten_cons, List.length_append, ih, Nat.succ_mul, Nat.add_comm]
theorem Ya0 : OpR X (binaryOp .Mult) rRep := by
 intro pins s σ H x y v u Q I rx ry h
 obtain ⟨l, k, xs, rfl, rfl, hH, h1, h2, hz, q⟩ := h
 cases rx
 obtain ⟨t, rfl⟩ := ry
 obtain ⟨z, its, n, r, hl, e⟩ := I.lstM hH
 have hlen : its.toArray.size * k.toNat ≤ sizeLine := by rw [List.size_toArray, ← hl]; exact hz
 have hcap : ¬ its.toArray.size * k.toNat > (2 ^ 63 - 1) / 8 := by
  have : (sizeLine : Nat) ≤ (2 ^ 63 - 1) / 8 := by decide
  omega
 have hfit : ¬ (!Builtin.List.listFitsIndex k) = true := by
  rw [fitsIndex_both h1 h2]
  exact Bool.false_ne_true
 have hlong : ¬ Builtin.List.listTooLong (its.toArray.size * k.toNat) = true := by
  rw [Ztq hlen]
  exact Bool.false_ne_true
 have hnew : List.foldl (fun x1 x2 => x1 ++ x2) #[] (List.replicate (if its.toArray.isEmpty = true then 0 else k.toNat) its.toArray) = (List.replicate k.toNat its).flatten.toArray := by
  have f0 : ∀ m : Nat, List.foldl (fun x1 x2 => x1 ++ x2) #[] (List.replicate m its.toArray) = (List.replicate m its).flatten.toArray := fun m => by
   have := Zhi its m []
   rw [List.nil_append] at this
   exact this
  rw [f0]
  cases its with
  | nil => simp
  | cons a r' => rw [if_neg (by simp)]
 refine wpAny_binaryOp_repeat_ref (T := "list") (U := "int") (by decide) ⟨_, e, rfl⟩ (fun s' => typeIs_int s' k t) noFill_list_mul F.fills_int_mul F.slot_int_rmul repeat_list F.slot_int_index.lookup
  (call_meets F.slot_int_rmul (typeIs_int s k t) F.entry_int_rmul (F.args_int_rmul_2 _ _) (int___rmul___int_list k t l its.toArray n)
   ⟨e, rfl, ⟨_, e, rfl⟩, call_meets F.slot_list_mul ⟨_, e, rfl⟩ F.entry_list_mul (F.args_list_mul_2 _ _) (AutoListH.list___mul___list_int_3 l its.toArray n k t hfit hcap hlong) ⟨e, ?_⟩⟩)
 rw [hnew]
 exact ⟨.ref _, _, I.lnew (t' := s.toks) (r.rep k.toNat) (by rw [Zl9, Nat.mul_comm]; exact hz), rfl, q _ I.fresh⟩
end
section
variable {prog : Program} {w : World} {A : Around} {E : Value -> Shared -> Prop} {s : Shared}
set_option maxRecDepth 100000 in
end
end L2
namespace Att
open PySem PySem.W PySem.Calls PyProof.Rows
theorem Zhw {P : Params} {h : Heap} : ∀ (ns : List Int) (vs : List Value), WellAll P h vs (ns.map WData.int) -> IntsAre vs ns := by
 intro ns
 induction ns with
 | nil =>
  intro vs w
  rw [List.map_nil] at w
  cases w
  exact .nil
 | cons n ns ih =>
  intro vs w
  rw [List.map_cons] at w
  cases w with
  | cons a b =>
   cases a
   exact .cons _ _ (ih _ b)
theorem Zpb {l : OpenLaw} {n : Nat} (hn : l.most = some n) {P : Params} {h : Heap} {args : List WData} {vals : List Value}
  (hpre : l.row.toRowW.claim.pre args = true) (hwl : WellAll P h vals args) :
  ∃ a vs ns, vals = [Value.ref a] ∧ args = [WData.list (ns.map WData.int)] ∧ h.get? a = some { cls := .type "list", data := .seq vs.toArray } ∧ IntsAre vs ns ∧ ns.length ≤ n := by
 have hsh : WShape.hasAll [] args [.list .int] = true := (pre_splitW hpre).1
 have hc : l.pre.holds [] { args := args } = true := (pre_splitW hpre).2
 obtain ⟨d, r, rfl, h1, h2⟩ := hasAllW_cons hsh
 obtain rfl := hasAllW_nil h2
 obtain ⟨xs, rfl, h3⟩ := hasW_list h1
 obtain ⟨ns, rfl⟩ := items_int h3
 have hlen : ns.length ≤ n := by
  unfold OpenLaw.pre at hc
  have h4 : (WTm.not (.lt (.lit (.int (n : Int))) (.len (.arg 0)))).holds [] { args := [.list (ns.map .int)] } = true := by
   have h4 := (holds_andW hc).1
   rw [hn] at h4
   exact h4
  have h5 := condW_of h4 (w_not (w_lt w_lit (w_len_list (w_arg rfl))))
  rw [List.length_map] at h5
  refine Nat.le_of_not_lt fun q => ?_
  have q' : (n : Int) < ((ns.length : Nat) : Int) := by omega
  first
   | (rw [decide_eq_true q'] at h5; exact absurd h5 (by decide))
   | (simp at h5; omega)
 cases hwl with
 | cons w1 w2 =>
  cases w2
  cases w1 with
  | list ho hall => exact ⟨_, _, ns, rfl, rfl, ho, Zhw ns _ hall, hlen⟩
theorem Zpk (l : OpenLaw) (args : List WData) : l.row.toRowW.claim.post args (.bool true) args = true :=
 postW_of (r := l.row.toRowW) (X := (true == true))
  (show WShape.has [] (.bool true) .bool = true by first | rfl | decide | simp [WShape.has, WShape.arms, WShape.armsAll])
  (show (WTm.eq .res (.lit (.bool true))).value [] { args := args, res := some (.bool true), after := args } = some (.bool (true == true)) from w_eq_bool (w_res rfl) w_lit) rfl
theorem attach_call {l : OpenLaw} {n : Nat} {q : Program} {loose : List Str} {XP : (Str -> Option Value) -> Heap -> Prop} {YP : World -> Heap -> Prop} {d : DefRec}
  (hn : l.most = some n) (hdf : d.params.defaults = [])
  (call : ∀ (w : World) (s₀ s₁ : Shared) (mg mb : Str -> Option Value) (fa : Addr) (o : Obj) (pm cd doc : Value) (a : Addr) (vs : List Value) (ns : List Int),
   Ground q loose [] XP w s₀ mg mb s₁.heap -> YP w s₁.heap →
   s₁.heap.get? fa = some o -> o.data = .func (docDef d.name d.params d.body d.scope pm cd doc) -> s₁.heap.CodeRec cd d.name -> mg d.name = some (.ref fa) →
   s₁.heap.get? a = some { cls := .type "list", data := .seq vs.toArray } → IntsAre vs ns → ns.length ≤ n → s₁.gens = #[] →
   codeAny (model l.prog w) callerA (.call (.ref fa) ⟨[.ref a], []⟩) (fun r s' => r = .ok (.ret (.bool true)) ∧ OldK s₁.heap s'.heap ∧ s'.os = s₁.os ∧ AllBare s'.gens) s₁) :
  WalkO q loose XP YP l.row.toRowW d [] (fun f vs => PySem.call f vs) := by
 intro w s₀ s₁ mg mb G Y fa o pm cd doc dV kV ho hd hcd hD hmg hg args vals as hpre hlay hrd hwl hlo
 obtain rfl : dV = .none := Dflts.none hD hdf
 obtain rfl : kV = .none := Dflts.noKw hD
 obtain ⟨a, vs, ns, rfl, rfl, hobj, hints, hlen⟩ := Zpb hn hpre hwl
 refine enter_call (codeAny_mono (call w s₀ s₁ mg mb fa o pm cd doc a vs ns G Y ho (fd_plain hd) hcd hmg hobj hints hlen hg) fun r s' hq => ?_)
 obtain ⟨rfl, h2, h3, h4⟩ := hq
 exact ⟨.inl ⟨.bool true, .bool true, [], rfl, fun _ => rfl, .bool true, Zpk l _, fun _ => ⟨List.Pairwise.nil, fun _ hm => (nomatch hm)⟩⟩, h2, h3, h4⟩
end Att
namespace L2
open PySem PySem.Spec PyProof.Rows
theorem Zli : ∀ {vs : List Value} {ns : List Int}, IntsAre vs ns -> Zbf (ns.map V.int) vs
 | _, _, .nil => .nil
 | _, _, .cons n t h => .cons ⟨t, rfl⟩ (Zli h)
noncomputable def Zzc (H : Hp) : Prop := ∀ b, H b = none ∨ ∃ o xs, H b = some (.frz o (.lst xs))
theorem Zs4 {P : Program} {w : World} {K : PySem.W.Frag} {mg mb : Str -> Option Value} {CX : CXT} {k : Nat} {fa a : Addr} {fd : FuncData} {x : Str} {sp : Sp} {s₁ : Shared} {vs : List Value} {ns : List Int}
  (KX : K.In s₁.heap) (hns : s₁.heap.Ns mainGlobals mg) (hb : s₁.heap.Ns builtinsNs mb) (hbb : ∀ x : Str, x ≠ "__name__" → mb x = bootBuiltins x) (hlim : s₁.heap.NoLimit) (hg : s₁.gens = #[])
  (ha : s₁.heap.get? a = some { cls := .type "list", data := .seq vs.toArray }) (hi : IntsAre vs ns) (hl : ns.length ≤ sizeLine) (hr : Room k callerA)
  (F : ∀ base : Heap, K.In base -> base.Ns mainGlobals mg -> FnOk P w K mg base CX k fa fd [x] sp) (hbind : ∀ (s : Shared) (u : Value), BindsTo s fd ⟨[u], []⟩ [(x, u)])
  (hsp : ∀ H : Hp, Zzc H -> SqL K H a (ns.map V.int) -> sp [.ref a] H (fun v _ => v = .bl true) fun _ _ _ => False)
  (hCX : ∀ H e s', CX [] H s₁ (fun _ _ _ => False) e s' -> False) :
  codeAny (model P w) callerA (.call (.ref fa) ⟨[.ref a], []⟩) (fun r s' => r = .ok (.ret (.bool true)) ∧ OldK s₁.heap s'.heap ∧ s'.os = s₁.os ∧ AllBare s'.gens) s₁ := by
 have rv := Zli hi
 have lenV := hi.length
 -- from an abstract heap in which nothing but the script may be tracked
 have core : ∀ H : Hp, Zzc H -> SqL K H a (ns.map V.int) -> HOk P w H s₁.heap -> (∀ b, H b ≠ none -> b = a) -> (H a ≠ none -> K.lookup a = none) →
   codeAny (model P w) callerA (.call (.ref fa) ⟨[.ref a], []⟩) (fun r s' => r = .ok (.ret (.bool true)) ∧ OldK s₁.heap s'.heap ∧ s'.os = s₁.os ∧ AllBare s'.gens) s₁ := by
  intro H hO hS hok hA hK
  have base_of : ∀ {b : Addr} {o : Obj}, s₁.heap.get? b = some o -> H b = none -> (Zt5 s₁.heap H).get? b = some o := fun e n => Zt6 e n
  have noA : ∀ {b : Addr} {o : Obj} {es : Array DictEntry} {ep : Nat}, s₁.heap.get? b = some o -> o.data = .dict es ep -> H b = none := fun {b o es ep} e d => by
   cases q : H b with
   | none => rfl
   | some u =>
    have e' : b = a := hA b (by rw [q]; simp)
    subst e'
    rw [ha] at e; cases e
    have d' : Data.seq vs.toArray _ = Data.dict es ep := d
    cases d'
  have nsK : ∀ {b : Addr} {m : Str -> Option Value}, s₁.heap.Ns b m -> (Zt5 s₁.heap H).Ns b m := fun {b m} ⟨o, es, ep, e, d, r⟩ => ⟨o, es, ep, base_of e (noA e d), d, r⟩
  have hKb : K.In (Zt5 s₁.heap H) := fun b o e => base_of (KX b o e) (by
   cases q : H b with
   | none => rfl
   | some u =>
    have e' : b = a := hA b (by rw [q]; simp)
    subst e'
    rw [hK (by rw [q]; simp)] at e; cases e)
  have hM : Mod K mg (Zt5 s₁.heap H) := ⟨hKb, nsK hns, ⟨mb, nsK hb, hbb⟩, let ⟨mc, h1, h2⟩ := hlim; ⟨mc, nsK h1, h2⟩⟩
  have e0 : Env0 P w K mg (Zt5 s₁.heap H) callerA [] s₁ H := ⟨rfl, hM, fun b o e => Zxm e, Nat.le_of_eq (Zrh _ _), trivial, fun b hb => absurd (show b ∈ ([] : List Addr) from hb) (by simp), hok, .of_eq hg⟩
  refine codeAny_mono ((F _ hKb (nsK hns)).run callerA [] s₁ H ⟨[.ref a], []⟩ [.ref a] [.ref a] _ _ hr e0 (hbind s₁ (.ref a)) (.cons rfl .nil) (hsp H hO hS)) fun r s' h => ?_
  cases r with
  | error e => exact (hCX H e s' h).elim
  | ok fl =>
   cases fl with
   | next => exact False.elim h
   | brk => exact False.elim h
   | cont => exact False.elim h
   | ret u =>
    obtain ⟨v, H', os, bare, un, hok', r', q⟩ := h
    have q' : v = .bl true := q
    subst q'
    obtain rfl : u = Value.bool true := r'
    refine ⟨rfl, OldK.of_keep fun b o e => ?_, os, bare⟩
    cases q : H b with
    | none => exact un.keep b o e q (by intro z; exact absurd (show b ∈ ([] : List Addr) from z) (by simp)) (by simp)
    | some u =>
     rcases hO b with z | ⟨ob, xs, z⟩
     ·rw [q] at z; cases z
     ·have z2 := un.frzs b ob _ z
      obtain ⟨e1, _⟩ := hok b _ z
      obtain ⟨e2, _⟩ := hok' b _ z2
      rw [e] at e1; cases e1
      exact e2
 cases hk : K.lookup a with
 | some o =>
  -- the script is one of the module's own objects
  have e := KX a o hk
  rw [ha] at e
  cases e
  refine core (fun _ => none) (fun _ => .inl rfl) (.inr ⟨_, vs.toArray, _, hk, rfl, rfl, rfl, by rw [List.size_toArray, lenV]; exact hl, by simpa using rv⟩) (fun b u z => by have z' : (none : Option HO) = some u := z; cases z') (fun b z => absurd rfl z) fun z => absurd rfl z
 | none =>
  refine core (fun b => if b = a then some (.frz { cls := .type "list", data := .seq vs.toArray } (.lst (ns.map V.int))) else none) (fun b => ?_) (.inl (.inr ⟨{ cls := .type "list", data := .seq vs.toArray }, if_pos rfl⟩)) (fun b u z => ?_) (fun b z => ?_) fun _ => hk
  ·by_cases hb : b = a
   ·exact .inr ⟨_, _, if_pos hb⟩
   ·exact .inl (if_neg hb)
  ·by_cases hb : b = a
   ·have z' := (if_pos hb).symm.trans z
    cases z'
    subst hb
    exact ⟨ha, by rw [List.length_map]; exact hl, vs, _, rv, ha⟩
   ·have z' := (if_neg hb).symm.trans z
    cases z'
  ·by_cases hb : b = a
   ·exact hb
   ·exact absurd (if_neg hb) z
noncomputable abbrev KOf {K : PySem.W.Frag} {h : Heap} (_ : K.In h) : PySem.W.Frag := K
theorem Zv5 {l : PySem.W.OpenLaw} {n k : Nat} {q : Program} {loose : List Str} {XP : (Str -> Option Value) -> Heap -> Prop} {YP : World -> Heap -> Prop} {d : DefRec} {K : Params -> PySem.W.Frag} {CX : World -> CXT} {sp : World -> Sp} {x : Str}
  (hn : l.most = some n) (hn2 : n ≤ sizeLine) (hdf : d.params.defaults = []) (hr : Room k callerA)
  (hY : ∀ (w : World) (h : Heap), YP w h -> (K w.params).In h)
  (F : ∀ (w : World) (mg : Str -> Option Value) (fa : Addr) (h : Heap), (K w.params).In h -> h.Ns mainGlobals mg -> mg d.name = some (.ref fa) →
   ∃ fd : FuncData, (∀ (s : Shared) (u : Value), BindsTo s fd ⟨[u], []⟩ [(x, u)]) ∧
    ∀ base : Heap, (K w.params).In base -> base.Ns mainGlobals mg -> FnOk l.prog w (K w.params) mg base (CX w) k fa fd [x] (sp w))
  (hsp : ∀ (w : World) (H : Hp) (a : Addr) (ns : List Int), ns.length ≤ n -> Zzc H -> SqL (K w.params) H a (ns.map V.int) -> sp w [.ref a] H (fun v _ => v = .bl true) fun _ _ _ => False)
  (hCX : ∀ (w : World) (H : Hp) (s : Shared) (e : Value) (s' : Shared), CX w [] H s (fun _ _ _ => False) e s' -> False) :
  PySem.W.WalkO q loose XP YP l.row.toRowW d [] (fun f vs => PySem.call f vs) := by
 refine Att.attach_call hn hdf fun w s₀ s₁ mg mb fa o pm cd doc a vs ns G Y ho hd hcd hmg hobj hints hlen hg => ?_
 have KX := hY w _ Y
 obtain ⟨fd, hb, hF⟩ := F w mg fa _ KX G.T.g hmg
 exact Zs4 KX G.T.g G.T.b G.T.builtins G.T.nolimit hg hobj hints (Nat.le_trans hlen hn2) hr hF hb (fun H hO hS => hsp w H a ns hlen hO hS) fun H e s' => hCX w H s₁ e s'
theorem walk_ofK {l : PySem.W.OpenLaw} {n k : Nat} {q : Program} {loose : List Str} {XP : (Str -> Option Value) -> Heap -> Prop} {YP : World -> Heap -> Prop} {d : DefRec} {K : Params -> PySem.W.Frag} {CX : CXT} {sp : PySem.W.Frag -> Sp} {x : Str}
  (hn : l.most = some n) (hn2 : n ≤ sizeLine) (hdf : d.params.defaults = []) (hr : Room k callerA)
  (hY : ∀ (w : World) (h : Heap), YP w h -> (K w.params).In h)
  (F : ∀ (w : World) (mg : Str -> Option Value) (fa : Addr) (h : Heap), (K w.params).In h -> h.Ns mainGlobals mg -> mg d.name = some (.ref fa) →
   ∃ fd : FuncData, (∀ (s : Shared) (u : Value), BindsTo s fd ⟨[u], []⟩ [(x, u)]) ∧
    ∀ base : Heap, (K w.params).In base -> base.Ns mainGlobals mg -> FnOk l.prog w (K w.params) mg base CX k fa fd [x] (sp (K w.params)))
  (hsp : ∀ (K : PySem.W.Frag) (H : Hp) (a : Addr) (ns : List Int), ns.length ≤ n -> Zzc H -> SqL K H a (ns.map V.int) -> sp K [.ref a] H (fun v _ => v = .bl true) fun _ _ _ => False)
  (hCX : ∀ (H : Hp) (s : Shared) (e : Value) (s' : Shared), CX [] H s (fun _ _ _ => False) e s' -> False) :
  PySem.W.WalkO q loose XP YP l.row.toRowW d [] (fun f vs => PySem.call f vs) :=
 Zv5 (K := K) (CX := fun _ => CX) (sp := fun w => sp (K w.params)) hn hn2 hdf hr hY F (fun w H a ns h1 h2 h3 => hsp (K w.params) H a ns h1 h2 h3) fun _ H s e s' => hCX H s e s'
noncomputable def Zcs (s : Stmt) : Arguments := match s with
 | .FunctionDef _ a _ _ _ _ _ _ _ _ => a
 | _ => { posonlyargs := [], args := [], vararg := none, kwonlyargs := [], kw_defaults := [], kwarg := none, defaults := [] }
noncomputable def Zbc (s : Stmt) : List Stmt := match s with
 | .FunctionDef _ _ b _ _ _ _ _ _ _ => b
 | _ => []
noncomputable def Zad (s : Stmt) : Scope := match s with
 | .FunctionDef _ _ _ _ _ _ sc _ _ _ => sc
 | _ => { kind := .function, names := [], isGenerator := false, isCoroutine := false }
noncomputable abbrev CX0 : CXT := fun _ _ _ _ _ _ => False
noncomputable abbrev E0 : XK := fun _ _ _ => False
theorem Zsn {X : Cx} : Zho CX0 X E0 := fun _ _ _ _ _ _ _ h => h.elim
structure Fun (K : PySem.W.Frag) (x qual : Str) (st : Stmt) (f : Addr) (fd : FuncData) : Prop where
 ex : ∃ (oc : Value) (od : Option Addr) (kV doc pm : Value) (an : Option Addr) (cdv ct : Value) (osl : Array (Option Value)),
  fd = PySem.W.fnOf x qual (Zcs st) (Zbc st) (Zad st) .none kV doc pm an cdv ct ∧ K.lookup f = some ⟨oc, od, .func fd, osl⟩ ∧ PySem.W.codeIn K cdv qual = true
 kp : PySem.W.keepIn K (.ref f) = true
section
variable {P : Program} {w : World} {K : PySem.W.Frag} {mg : Str -> Option Value} {base : Heap}
theorem Fun.ok {x qual : Str} {st : Stmt} {f : Addr} {fd : FuncData} {N ps : List Str} {k : Nat} {sp : Sp} (F : Fun K x qual st f fd) (S : FnScope N ps (Zad st)) (len : ∀ vs H Q E, sp vs H Q E -> vs.length = ps.length)
  (hbody : ∀ (cdv : Value) (A : Around) (outer : List Env) (s : Shared) (H : Hp) (vs : List V) (Q : VK) (E : XK), Room k (A.deeper (envOfC qual (Zad st) s.heap.objs.size f cdv)) -> sp vs H Q E →
   ∃ t, PSs (Zey CX0 P w K mg base N qual (Zad st) f cdv A outer s H E).nox (Zbc st) t ∧ t { nx := fun _ H' => Q .non H', rt := Q } (start N vs) H) : FnOk P w K mg base CX0 (k + 1) f fd ps sp := by
 obtain ⟨oc, od, kV, doc, pm, an, cdv, ct, osl, rfl, lk, hcd⟩ := F.ex
 refine Zyn lk hcd S len fun A outer s H vs Q E hr hsp => ?_
 obtain ⟨t, h, q⟩ := hbody cdv A outer s H vs Q E hr hsp
 exact ⟨t, h.nox, q⟩
theorem Fun.binds {x qual : Str} {st : Stmt} {f : Addr} {fd : FuncData} {ps : List Str} (F : Fun K x qual st f fd)
  (h : ∀ (kV doc pm : Value) (an : Option Addr) (cdv ct : Value) (us : List Value), us.length = ps.length -> bindArgs (PySem.W.fnOf x qual (Zcs st) (Zbc st) (Zad st) .none kV doc pm an cdv ct) ⟨us, []⟩ = pure (ps.zip us)) : Zfd K fd ps [] := by
 obtain ⟨oc, od, kV, doc, pm, an, cdv, ct, osl, rfl, lk, hcd⟩ := F.ex
 exact .all (h kV doc pm an cdv ct)
theorem Zpq {x qual : Str} {st : Stmt} {f : Addr} {oc : Value} {od an : Option Addr} {osl : Array (Option Value)} {kV doc pm cdv ct : Value} (l : K.lookup f = some ⟨oc, od, .func (PySem.W.fnOf x qual (Zcs st) (Zbc st) (Zad st) .none kV doc pm an cdv ct), osl⟩)
  (c : PySem.W.codeIn K cdv qual = true) (k : PySem.W.keepIn K (.ref f) = true) : Fun K x qual st f (PySem.W.fnOf x qual (Zcs st) (Zbc st) (Zad st) .none kV doc pm an cdv ct) := ⟨⟨oc, od, kV, doc, pm, an, cdv, ct, osl, rfl, l, c⟩, k⟩
end
section
variable {X : Cx}
theorem pv (i : Nat) {x : Str} {pos : Pos} (hN : X.N[i]? = some x := by rfl) (hv : Vis X.env.scope x := by first | exact Or.inl rfl | exact Or.inr (Or.inl rfl) | exact Or.inr (Or.inr rfl)) (hd : (x == ("__debug__" : Str)) = false := by decide)
  (hcd : (x == ("__classdict__" : Str)) = false := by decide) : PE X (.Name x pos) (tVar i) := Yaa hN hv hd hcd
end
end L2
set_option maxHeartbeats 4000000
set_option autoImplicit false
namespace DL
open PySem PySem.Spec PyProof.Rows L2
noncomputable def Zr1 : Value -> Option Int
 | .int i _ => some i
 | .bool b => some (if b then 1 else 0)
 | _ => none
noncomputable def Zma (k : Int) (v : Value) : Bool := Zr1 v == some k
theorem Zdt {k : Int} {v : Value} (h : Zma k v = true) : (∃ t, v = .int k t) ∨ ∃ b, v = .bool b ∧ k = (if b then 1 else 0) := by
 have h : Zr1 v = some k := eq_of_beq h
 cases v with
 | int i t => exact .inl ⟨t, by cases h; rfl⟩
 | bool b => exact .inr ⟨b, rfl, (Option.some.inj h).symm⟩
 | _ => cases h
section
variable {prog : Program} {w : World} {A : Around} {E : Value -> Shared -> Prop} {s : Shared}
theorem Zmi {b : Bool} {Q : Int -> Shared -> Prop} (h : Q (hashInt (if b then 1 else 0)) { s with toks := s.toks + 1 }) : wpAny (model prog w) A (pyHash (.bool b)) Q E s := by
 have hr := rawHash_range (if b then 1 else 0)
 have tb : s.TypeIs (.bool b) "bool" := rfl
 unfold pyHash
 have hv : [Value.bool b].any Value.onHeap = false := rfl
 refine wpAny_bind ?_
 rw [cRoomFor, if_neg (by rw [hv]; exact Bool.false_ne_true)]; refine wpAny_pure ?_
 refine wpAny_bind (wpAny_specialOf tb F.slot_bool_hash.lookup ?_)
 show wpAny _ _ (if (some (Value.builtin "int.__hash__") == some Value.none) = true then _ else _) Q E s
 rw [if_neg (by rw [beq_builtin_none]; exact Bool.false_ne_true)]
 refine wpAny_bind (wpAny_specialOf tb F.slot_bool_hash.lookup ?_)
 show wpAny _ _ (callSpecialIfBoundUnlessNone? (.bool b) "__hash__" _ >>= _) Q E s
 refine wpAny_bind (wpAny_callSpecialIfBoundUnlessNone?_slot tb F.slot_bool_hash
  (wpAny_call_entry F.slot_bool_hash tb entry_int_hash
   (show wpAny _ _ (do ret (← mkInt (rawHash (if b then 1 else 0)))) _ _ s from wpAny_ret_mkInt ?_) (args_int_hash _)))
 show wpAny _ _ (if (decide (-(2 : Int) ^ 63 ≤ rawHash (if b then 1 else 0)) && decide (rawHash (if b then 1 else 0) < 2 ^ 63)) = true then _ else _) Q E _
 rw [if_pos (by rw [decide_eq_true hr.1, decide_eq_true hr.2]; rfl)]
 exact wpAny_pure h
end
noncomputable def Zc2 (prog : Program) (w : World) : KeyKind prog w Int where
 is := Zma
 hash := hashInt
 inj := fun v a b ha hb => by
  unfold Zma at ha hb
  have := (eq_of_beq ha).symm.trans (eq_of_beq hb)
  exact Option.some.inj this
 byValue := fun k v h => by rcases Zdt h with ⟨t, rfl⟩ | ⟨b, rfl, _⟩ <;> rfl
 pyHash := fun hv h => by
  rcases Zdt hv with ⟨t, rfl⟩ | ⟨b, rfl, rfl⟩
  ·exact wpAny_pyHash_int h
  ·exact Zmi h
 eqBool := fun {A E s a b u v Q} hu hv h => by
  rcases Zdt hu with ⟨t, rfl⟩ | ⟨c, rfl, rfl⟩ <;> rcases Zdt hv with ⟨t', rfl⟩ | ⟨c', rfl, rfl⟩
  ·exact wpAny_eqBool_int h
  ·exact PySem.SeqAt.EqAt.int_bool _ _ _ prog w E Q h
  ·exact PySem.SeqAt.EqAt.bool_int _ _ _ prog w E Q h
  ·refine PySem.SeqAt.EqAt.bool_bool _ _ prog w E Q ?_
   have e : (c == c') = decide ((if c then (1 : Int) else 0) = (if c' then 1 else 0)) := by cases c <;> cases c' <;> rfl
   rw [e]; exact h
 «strs» := fun k x t v h => by simp [Zma, Zr1] at h
inductive D where
 | non | bl (b : Bool) | int (i : Int) | str (x : Str) | ty (n : String) | tup (xs : List D) | fl (xs : List D) | ref (n : Nat)
inductive DO where
 | lst (xs : List D) | dic (kvs : List (D × D)) (fz : Bool) | dci (kvs : List (Int × D)) | dcn (kvs : List (D × D)) | obj (cn : Str) (fs : List (Str × D)) | exc (cn : Str)
noncomputable abbrev HD := List DO
noncomputable abbrev SD := List (Option D)
noncomputable def FzL (K : PySem.W.Frag) (H : Hp) (a : Addr) (xs : List V) : Prop :=
 (∃ o, H a = some (.frz o (.lst xs))) ∨
  ∃ (o : Obj) (its : Array Value) (n : Nat), K.lookup a = some o ∧ o.cls = .type "list" ∧ o.dict = none ∧ o.data = .seq its n ∧ its.size ≤ sizeLine ∧ Zbf xs its.toList
theorem FzL.sq {K : PySem.W.Frag} {H : Hp} {a : Addr} {xs : List V} (h : FzL K H a xs) : SqL K H a xs := by
 rcases h with h | h
 ·exact .inl (.inr h)
 ·exact .inr h
mutual
noncomputable def Rep (K : PySem.W.Frag) (H : Hp) (ι : List Addr) : D -> V -> Prop
 | .non, v => v = .non
 | .bl b, v => v = .bl b
 | .int i, v => v = .int i
 | .str x, v => v = .str x
 | .ty n, v => v = .ty n
 | .tup ds, v => ∃ a vs, v = .ref a ∧ SqT K H a vs ∧ Zkk K H ι ds vs
 | .fl ds, v => ∃ a vs, v = .ref a ∧ FzL K H a vs ∧ Zkk K H ι ds vs
 | .ref n, v => ∃ a, v = .ref a ∧ ι[n]? = some a
noncomputable def Zkk (K : PySem.W.Frag) (H : Hp) (ι : List Addr) : List D -> List V -> Prop
 | [], vs => vs = []
 | d :: ds, vs => ∃ v r, vs = v :: r ∧ Rep K H ι d v ∧ Zkk K H ι ds r
end
section
variable {α β : Type} {F G : α -> β -> Prop}
theorem Prd.len : ∀ {xs : List α} {us : List β}, Paired F xs us -> xs.length = us.length
 | _, _, .nil => rfl
 | _, _, .cons _ t => by simp [Prd.len t]
theorem Prd.get : ∀ {xs : List α} {us : List β} {i : Nat} {x : α}, Paired F xs us -> xs[i]? = some x -> ∃ u, us[i]? = some u ∧ F x u
 | _, _, _, _, .nil, e => by simp at e
 | _, _, 0, _, .cons r _, e => by simp at e; subst e; exact ⟨_, rfl, r⟩
 | _, _, i + 1, x, .cons _ t, e => by
  obtain ⟨u, h1, h2⟩ := Prd.get (i := i) (x := x) t (by simpa using e)
  exact ⟨u, by simpa using h1, h2⟩
theorem Prd.set {x : α} {u : β} (r : F x u) : ∀ {xs : List α} {us : List β} (i : Nat), Paired F xs us -> Paired F (xs.set i x) (us.set i u)
 | _, _, _, .nil => .nil
 | _, _, 0, .cons _ t => .cons r t
 | _, _, i + 1, .cons q t => .cons q (Prd.set r i t)
theorem Prd.append : ∀ {xs ys : List α} {us ws : List β}, Paired F xs us -> Paired F ys ws -> Paired F (xs ++ ys) (us ++ ws)
 | _, _, _, _, .nil, s => s
 | _, _, _, _, .cons r t, s => .cons r (Prd.append t s)
theorem Prd.take : ∀ {xs : List α} {us : List β} (n : Nat), Paired F xs us -> Paired F (xs.take n) (us.take n)
 | _, _, 0, _ => .nil
 | _, _, _ + 1, .nil => .nil
 | _, _, n + 1, .cons r t => .cons r (Prd.take n t)
theorem Prd.drop : ∀ {xs : List α} {us : List β} (n : Nat), Paired F xs us -> Paired F (xs.drop n) (us.drop n)
 | _, _, 0, r => r
 | _, _, _ + 1, .nil => .nil
 | _, _, n + 1, .cons _ t => Prd.drop n t
theorem Prd.eraseIdx : ∀ {xs : List α} {us : List β} (i : Nat), Paired F xs us -> Paired F (xs.eraseIdx i) (us.eraseIdx i)
 | _, _, _, .nil => .nil
 | _, _, 0, .cons _ t => t
 | _, _, i + 1, .cons r t => .cons r (Prd.eraseIdx i t)
theorem Prd.rep {xs : List α} {us : List β} (h : Paired F xs us) : ∀ k : Nat, Paired F (List.replicate k xs).flatten (List.replicate k us).flatten
 | 0 => .nil
 | k + 1 => by
  rw [List.replicate_succ, List.flatten_cons, List.replicate_succ, List.flatten_cons]
  exact Prd.append h (Prd.rep h k)
theorem Prd.imp : ∀ {xs : List α} {us : List β}, Paired F xs us -> (∀ a b, a ∈ xs -> F a b -> G a b) -> Paired G xs us
 | _, _, .nil, _ => .nil
 | _, _, .cons r t, f => .cons (f _ _ (by simp) r) (Prd.imp t fun a b h => f a b (by simp [h]))
end
section
variable {K : PySem.W.Frag} {H H' : Hp} {ι ι' : List Addr}
theorem Zda : ∀ {ds : List D} {vs : List V}, Zkk K H ι ds vs ↔ Paired (Rep K H ι) ds vs
 | [], vs => by
  constructor
  ·intro h; rw [Zkk] at h; subst h; exact .nil
  ·intro h; cases h; rw [Zkk]
 | d :: ds, vs => by
  constructor
  ·intro h; rw [Zkk] at h
   obtain ⟨v, r, rfl, h1, h2⟩ := h
   exact .cons h1 (Zda.mp h2)
  ·intro h
   cases h with
   | cons h1 h2 => rw [Zkk]; exact ⟨_, _, rfl, h1, Zda.mpr h2⟩
@[simp] theorem rep_non {v : V} : Rep K H ι .non v ↔ v = .non := by rw [Rep]
@[simp] theorem rep_bl {b : Bool} {v : V} : Rep K H ι (.bl b) v ↔ v = .bl b := by rw [Rep]
@[simp] theorem rep_int {i : Int} {v : V} : Rep K H ι (.int i) v ↔ v = .int i := by rw [Rep]
@[simp] theorem rep_str {x : Str} {v : V} : Rep K H ι (.str x) v ↔ v = .str x := by rw [Rep]
@[simp] theorem rep_ty {n : String} {v : V} : Rep K H ι (.ty n) v ↔ v = .ty n := by rw [Rep]
theorem Zbd {ds : List D} {v : V} : Rep K H ι (.tup ds) v ↔ ∃ a vs, v = .ref a ∧ SqT K H a vs ∧ Paired (Rep K H ι) ds vs := by
 rw [Rep]
 constructor
 ·rintro ⟨a, vs, h1, h2, h3⟩; exact ⟨a, vs, h1, h2, Zda.mp h3⟩
 ·rintro ⟨a, vs, h1, h2, h3⟩; exact ⟨a, vs, h1, h2, Zda.mpr h3⟩
theorem Zfr {ds : List D} {v : V} : Rep K H ι (.fl ds) v ↔ ∃ a vs, v = .ref a ∧ FzL K H a vs ∧ Paired (Rep K H ι) ds vs := by
 rw [Rep]
 constructor
 ·rintro ⟨a, vs, h1, h2, h3⟩; exact ⟨a, vs, h1, h2, Zda.mp h3⟩
 ·rintro ⟨a, vs, h1, h2, h3⟩; exact ⟨a, vs, h1, h2, Zda.mpr h3⟩
theorem Zan {n : Nat} {v : V} : Rep K H ι (.ref n) v ↔ ∃ a, v = .ref a ∧ ι[n]? = some a := by rw [Rep]
structure Lw (K : PySem.W.Frag) (H : Hp) (ι : List Addr) (H' : Hp) (ι' : List Addr) : Prop where
 tup : ∀ a xs, SqT K H a xs -> SqT K H' a xs
 fz : ∀ a xs, FzL K H a xs -> FzL K H' a xs
 pre : ∃ t, ι' = ι ++ t
 fr : ∀ a o u, H a = some (.frz o u) -> H' a = some (.frz o u)
structure Le (K : PySem.W.Frag) (H : Hp) (ι : List Addr) (H' : Hp) (ι' : List Addr) : Prop extends Lw K H ι H' ι' where
 frame : ∀ a o, H a = some o -> a ∉ ι -> H' a = some o ∧ a ∉ ι'
theorem Le.refl : Le K H ι H ι := ⟨⟨fun _ _ h => h, fun _ _ h => h, ⟨[], by simp⟩, fun _ _ _ h => h⟩, fun _ _ h n => ⟨h, n⟩⟩
theorem Le.trans {H1 H2 : Hp} {ι1 ι2 : List Addr} (a : Le K H ι H1 ι1) (b : Le K H1 ι1 H2 ι2) : Le K H ι H2 ι2 := by
 refine ⟨⟨fun x xs h => b.tup x xs (a.tup x xs h), fun x xs h => b.fz x xs (a.fz x xs h), ?_, fun x o u h => b.fr x o u (a.fr x o u h)⟩, fun x o h n => ?_⟩
 ·obtain ⟨t, e⟩ := a.pre
  obtain ⟨u, e'⟩ := b.pre
  exact ⟨t ++ u, by rw [e', e, List.append_assoc]⟩
 ·obtain ⟨h1, n1⟩ := a.frame x o h n
  exact b.frame x o h1 n1
theorem Lw.get (l : Lw K H ι H' ι') {n : Nat} {a : Addr} (h : ι[n]? = some a) : ι'[n]? = some a := by
 obtain ⟨t, e⟩ := l.pre
 rw [e, List.getElem?_append_left (by exact (List.getElem?_eq_some_iff.mp h).1), h]
mutual
theorem Rep.monoW (l : Lw K H ι H' ι') : ∀ {d : D} {v : V}, Rep K H ι d v -> Rep K H' ι' d v
 | .non, v, h => by rw [Rep] at h ⊢; exact h
 | .bl _, v, h => by rw [Rep] at h ⊢; exact h
 | .int _, v, h => by rw [Rep] at h ⊢; exact h
 | .str _, v, h => by rw [Rep] at h ⊢; exact h
 | .ty _, v, h => by rw [Rep] at h ⊢; exact h
 | .tup ds, v, h => by
  rw [Rep] at h ⊢
  obtain ⟨a, vs, h1, h2, h3⟩ := h
  exact ⟨a, vs, h1, l.tup a vs h2, Zkk.monoW l h3⟩
 | .fl ds, v, h => by
  rw [Rep] at h ⊢
  obtain ⟨a, vs, h1, h2, h3⟩ := h
  exact ⟨a, vs, h1, l.fz a vs h2, Zkk.monoW l h3⟩
 | .ref n, v, h => by
  rw [Rep] at h ⊢
  obtain ⟨a, h1, h2⟩ := h
  exact ⟨a, h1, l.get h2⟩
theorem Zkk.monoW (l : Lw K H ι H' ι') : ∀ {ds : List D} {vs : List V}, Zkk K H ι ds vs -> Zkk K H' ι' ds vs
 | [], vs, h => by rw [Zkk] at h ⊢; exact h
 | d :: ds, vs, h => by
  rw [Zkk] at h ⊢
  obtain ⟨v, r, h1, h2, h3⟩ := h
  exact ⟨v, r, h1, Rep.monoW l h2, Zkk.monoW l h3⟩
end
theorem Rep.mono (l : Le K H ι H' ι') {d : D} {v : V} (h : Rep K H ι d v) : Rep K H' ι' d v := Rep.monoW l.toLw h
theorem Prd.monoW (l : Lw K H ι H' ι') {ds : List D} {vs : List V} (h : Paired (Rep K H ι) ds vs) : Paired (Rep K H' ι') ds vs := Zda.mp (Zkk.monoW l (Zda.mpr h))
theorem Prd.mono (l : Le K H ι H' ι') {ds : List D} {vs : List V} (h : Paired (Rep K H ι) ds vs) : Paired (Rep K H' ι') ds vs := Prd.monoW l.toLw h
noncomputable def nkOf : D -> Option Int
 | .int i => some i
 | .bl b => some (if b then 1 else 0)
 | _ => none
noncomputable def Zkb : List D -> Option (List Int)
 | [] => some []
 | d :: r => (nkOf d).bind fun k => (Zkb r).map fun ks => k :: ks
noncomputable def nk : D -> Option (List Int)
 | .tup ds => Zkb ds
 | _ => none
noncomputable def Zyu (ks : List Int) : Int := reduceHash (Builtin.Tuple.tupleHashOf (ks.map hashInt))
noncomputable def Zcl (a : Addr) (xs : List (List Int × Addr × Value)) (h : Heap) : Prop :=
 ∃ o es ep, h.get? a = some o ∧ o.ExactDict ∧ o.data = .dict es ep ∧ es.toList = xs.map (fun x => (⟨Zyu x.1, .ref x.2.1, x.2.2⟩ : DictEntry)) ∧ (xs.map (·.1)).Nodup
theorem Zcl.keep {a : Addr} {xs : List (List Int × Addr × Value)} {h1 h2 : Heap} (d : Zcl a xs h1) (k : ∀ o, h1.get? a = some o -> h2.get? a = some o) : Zcl a xs h2 := by
 obtain ⟨o, es, ep, e, r⟩ := d
 exact ⟨o, es, ep, k o e, r⟩
noncomputable def Zox (K : PySem.W.Frag) (H : Hp) (ι : List Addr) (p : D × D) (x : List Int × Addr × Value) : Prop := nk p.1 = some x.1 ∧ Rep K H ι p.1 (.ref x.2.1) ∧ ∃ v, Zbv v x.2.2 ∧ Rep K H ι p.2 v
noncomputable def DciAt (a : Addr) (xs : List (Int × Value)) (h : Heap) : Prop := ∀ (p : Program) (w : World), h.DictOf (Zc2 p w) a xs
noncomputable def IRep (K : PySem.W.Frag) (H : Hp) (ι : List Addr) (p : Int × D) (x : Int × Value) : Prop := p.1 = x.1 ∧ ∃ v, Zbv v x.2 ∧ Rep K H ι p.2 v
noncomputable def nk2 : D -> Option (Int × List Int)
 | .tup [a, b] => (nkOf a).bind fun i => (nk b).map fun ks => (i, ks)
 | _ => none
noncomputable def nHash (k : Int × List Int) : Int := reduceHash (Builtin.Tuple.tupleHashOf [hashInt k.1, Zyu k.2])
noncomputable def DcnAt (a : Addr) (xs : List ((Int × List Int) × Addr × Value)) (h : Heap) : Prop :=
 ∃ o es ep, h.get? a = some o ∧ o.ExactDict ∧ o.data = .dict es ep ∧ es.toList = xs.map (fun x => (⟨nHash x.1, .ref x.2.1, x.2.2⟩ : DictEntry)) ∧ (xs.map (·.1)).Nodup
noncomputable def NRep (K : PySem.W.Frag) (H : Hp) (ι : List Addr) (p : D × D) (x : (Int × List Int) × Addr × Value) : Prop := nk2 p.1 = some x.1 ∧ Rep K H ι p.1 (.ref x.2.1) ∧ ∃ v, Zbv v x.2.2 ∧ Rep K H ι p.2 v
noncomputable def Yaj (K : PySem.W.Frag) (H : Hp) (ι : List Addr) (p : Str × D) (x : Str × V) : Prop := p.1 = x.1 ∧ Rep K H ι p.2 x.2
noncomputable def Zf8 (a C : Addr) (h : Heap) : Prop := ∃ o, h.get? a = some o ∧ o.cls = .ref C
noncomputable def Zoy (K : PySem.W.Frag) (H : Hp) (ι : List Addr) (a : Addr) : DO -> Prop
 | .lst ds => ∃ vs, H a = some (.lst vs) ∧ Paired (Rep K H ι) ds vs
 | .dic kvs fz => (a == sysModules) = false ∧ kvs.length ≤ sizeLine ∧ ∃ xs, (if fz = true then ∃ o, H a = some (.frz o (.ext (Zcl a xs))) else H a = some (.ext (Zcl a xs))) ∧ Paired (Zox K H ι) kvs xs
 | .dci kvs => (a == sysModules) = false ∧ kvs.length ≤ sizeLine ∧ ∃ xs, H a = some (.ext (DciAt a xs)) ∧ Paired (IRep K H ι) kvs xs
 | .dcn kvs => (a == sysModules) = false ∧ kvs.length ≤ sizeLine ∧ ∃ xs, H a = some (.ext (DcnAt a xs)) ∧ Paired (NRep K H ι) kvs xs
 | .obj cn fs => ∃ C dx xs, PySem.W.nsIn K mainGlobals cn = some (some (.ref C)) ∧ H a = some (.ins C dx xs) ∧ Paired (Yaj K H ι) fs xs
 | .exc cn => ∃ C, PySem.W.nsIn K mainGlobals cn = some (some (.ref C)) ∧ H a = some (.ext (Zf8 a C))
structure HRep (K : PySem.W.Frag) (H : Hp) (ι : List Addr) (Hd : HD) : Prop where
 len : ι.length = Hd.length
 nd : ι.Nodup
 obj : ∀ (n : Nat) (a : Addr) (o : DO), ι[n]? = some a -> Hd[n]? = some o -> Zoy K H ι a o
theorem Zoy.there {a : Addr} {o : DO} (h : Zoy K H ι a o) : H a ≠ none := by
 cases o with
 | lst ds => obtain ⟨vs, e, _⟩ := h; rw [e]; simp
 | dic kv fz =>
  obtain ⟨_, _, xs, e, _⟩ := h
  cases fz with
  | true => rw [if_pos rfl] at e; obtain ⟨ob, e⟩ := e; rw [e]; simp
  | false => rw [if_neg (by simp)] at e; rw [e]; simp
 | dci kv => obtain ⟨_, _, xs, e, _⟩ := h; rw [e]; simp
 | dcn kv => obtain ⟨_, _, xs, e, _⟩ := h; rw [e]; simp
 | obj cn fs => obtain ⟨C, dx, xs, _, e, _⟩ := h; rw [e]; simp
 | exc cn => obtain ⟨C, _, e⟩ := h; rw [e]; simp
theorem Zoy.step {a : Addr} {o : DO} (h : Zoy K H ι a o) (l : Lw K H ι H' ι') (e : H' a = H a) : Zoy K H' ι' a o := by
 cases o with
 | lst ds => obtain ⟨vs, q, r⟩ := h; exact ⟨vs, by rw [e, q], Prd.monoW l r⟩
 | dic kv fz => obtain ⟨h1, h2, xs, q, r⟩ := h; exact ⟨h1, h2, xs, by rw [e]; exact q, Prd.imp r fun p x _ z => ⟨z.1, Rep.monoW l z.2.1, let ⟨v, z1, z2⟩ := z.2.2; ⟨v, z1, Rep.monoW l z2⟩⟩⟩
 | dci kv => obtain ⟨h1, h2, xs, q, r⟩ := h; exact ⟨h1, h2, xs, by rw [e]; exact q, Prd.imp r fun p x _ z => ⟨z.1, let ⟨v, z1, z2⟩ := z.2; ⟨v, z1, Rep.monoW l z2⟩⟩⟩
 | dcn kv => obtain ⟨h1, h2, xs, q, r⟩ := h; exact ⟨h1, h2, xs, by rw [e]; exact q, Prd.imp r fun p x _ z => ⟨z.1, Rep.monoW l z.2.1, let ⟨v, z1, z2⟩ := z.2.2; ⟨v, z1, Rep.monoW l z2⟩⟩⟩
 | obj cn fs => obtain ⟨C, dx, xs, h1, q, r⟩ := h; exact ⟨C, dx, xs, h1, by rw [e]; exact q, Prd.imp r fun p x _ z => ⟨z.1, Rep.monoW l z.2⟩⟩
 | exc cn => obtain ⟨C, h1, q⟩ := h; exact ⟨C, h1, by rw [e]; exact q⟩
theorem HRep.at {Hd : HD} (h : HRep K H ι Hd) {n : Nat} {o : DO} (e : Hd[n]? = some o) : ∃ a, ι[n]? = some a ∧ Zoy K H ι a o := by
 have hl : n < ι.length := by rw [h.len]; exact (List.getElem?_eq_some_iff.mp e).1
 exact ⟨ι[n], by simp [hl], h.obj n _ o (by simp [hl]) e⟩
theorem HRep.has {Hd : HD} (h : HRep K H ι Hd) {a : Addr} (hm : a ∈ ι) : ∃ (n : Nat) (o : DO), ι[n]? = some a ∧ Hd[n]? = some o ∧ Zoy K H ι a o := by
 obtain ⟨n, hn⟩ := List.mem_iff_getElem?.mp hm
 have hl : n < Hd.length := by rw [← h.len]; exact (List.getElem?_eq_some_iff.mp hn).1
 exact ⟨n, Hd[n], hn, by simp [hl], h.obj n a Hd[n] hn (by simp [hl])⟩
theorem HRep.fresh {Hd : HD} (h : HRep K H ι Hd) {p : Addr} (hp : H p = none) : p ∉ ι := fun hm => by
 obtain ⟨_, _, _, _, o⟩ := h.has hm
 exact o.there hp
theorem HRep.keep {Hd : HD} (h : HRep K H ι Hd) (l : Lw K H ι H' ι) (e : ∀ a ∈ ι, H' a = H a) : HRep K H' ι Hd :=
 ⟨h.len, h.nd, fun n a o h1 h2 => (h.obj n a o h1 h2).step l (e a (List.mem_of_getElem? h1))⟩
theorem Lw.fresh {p : Addr} (hp : H p = none) (o : HO) : Lw K H ι (upd H p o) ι where
 tup := fun a xs h => by
  rcases h with (h | ⟨ob, h⟩) | h
  ·exact .inl (.inl (by rw [Zak (Zam h hp)]; exact h))
  ·exact .inl (.inr ⟨ob, by rw [Zak (Zam h hp)]; exact h⟩)
  ·exact .inr h
 fz := fun a xs h => by
  rcases h with ⟨ob, h⟩ | h
  ·exact .inl ⟨ob, by rw [Zak (Zam h hp)]; exact h⟩
  ·exact .inr h
 pre := ⟨[], by simp⟩
 fr := fun a ob u h => by rw [Zak (Zam h hp)]; exact h
theorem Le.fresh {p : Addr} (hp : H p = none) (o : HO) : Le K H ι (upd H p o) ι := ⟨Lw.fresh hp o, fun a ob h n => ⟨by rw [Zak (Zam h hp)]; exact h, n⟩⟩
theorem Le.fresh1 {p : Addr} (hp : H p = none) (o : HO) : Le K H ι (upd H p o) (ι ++ [p]) where
 tup := (Le.fresh (ι := ι) hp o).tup
 fz := (Le.fresh (ι := ι) hp o).fz
 pre := ⟨[p], rfl⟩
 fr := (Le.fresh (K := K) (ι := ι) hp o).fr
 frame := fun a ob h n => ⟨by rw [Zak (Zam h hp)]; exact h, by
  have := Zam h hp
  simp [n, this]⟩
theorem HRep.tup {Hd : HD} (h : HRep K H ι Hd) {p : Addr} (hp : H p = none) (o : HO) : HRep K (upd H p o) ι Hd :=
 h.keep (Lw.fresh hp o) fun a ha => Zak fun z => by subst z; exact h.fresh hp ha
theorem HRep.new {Hd : HD} (h : HRep K H ι Hd) {p : Addr} (hp : H p = none) {u : HO} {o : DO} (ho : Zoy K (upd H p u) (ι ++ [p]) p o) : HRep K (upd H p u) (ι ++ [p]) (Hd ++ [o]) := by
 have hf := h.fresh hp
 refine ⟨by simp [h.len], by simp only [List.nodup_append, h.nd, true_and]; exact ⟨by simp, fun a ha b hb e => hf (by simp at hb; rw [← hb, ← e]; exact ha)⟩, fun n a ob h1 h2 => ?_⟩
 by_cases hn : n < ι.length
 ·rw [List.getElem?_append_left hn] at h1
  rw [List.getElem?_append_left (by rw [← h.len]; exact hn)] at h2
  have ha : a ∈ ι := List.mem_of_getElem? h1
  exact (h.obj n a ob h1 h2).step (Le.fresh1 hp u).toLw (Zak fun z => by subst z; exact hf ha)
 ·rw [List.getElem?_append_right (by omega)] at h1
  rw [List.getElem?_append_right (by rw [← h.len]; omega)] at h2
  rw [← h.len] at h2
  have : n - ι.length = 0 := by
   have := (List.getElem?_eq_some_iff.mp h1).1
   simp at this; omega
  rw [this] at h1 h2
  simp at h1 h2
  subst h1; subst h2
  exact ho
noncomputable def Zyp : HO -> Prop
 | .lst _ => True
 | .ext _ => True
 | .ins _ _ _ => True
 | _ => False
theorem Le.upd {a : Addr} (ha : a ∈ ι) {o : HO} (e : H a = some o) (lo : Zyp o) (u : HO) : Le K H ι (upd H a u) ι where
 tup := fun b xs h => by
  rcases h with (h | ⟨ob, h⟩) | h
  ·refine .inl (.inl ?_)
   rw [Zak (Zkp h e (by rintro rfl; exact lo))]; exact h
  ·refine .inl (.inr ⟨ob, ?_⟩)
   rw [Zak (Zkp h e (by rintro rfl; exact lo))]; exact h
  ·exact .inr h
 fz := fun b xs h => by
  rcases h with ⟨ob, h⟩ | h
  ·refine .inl ⟨ob, ?_⟩
   rw [Zak (Zkp h e (by rintro rfl; exact lo))]; exact h
  ·exact .inr h
 pre := ⟨[], by simp⟩
 fr := fun b ob w h => by rw [Zak (Zkp h e (by rintro rfl; exact lo))]; exact h
 frame := fun b ob h n => ⟨by rw [Zak (by rintro rfl; exact n ha)]; exact h, n⟩
theorem HRep.upd {Hd : HD} (h : HRep K H ι Hd) {n : Nat} {a : Addr} (hn : ι[n]? = some a) {o u : HO} (e : H a = some o) (lo : Zyp o) {ob : DO} (ho : Zoy K (upd H a u) ι a ob) : HRep K (upd H a u) ι (Hd.set n ob) := by
 refine ⟨by simp [h.len], h.nd, fun m b oc h1 h2 => ?_⟩
 by_cases hm : n = m
 ·subst hm
  rw [hn] at h1; cases h1
  rw [List.getElem?_set] at h2
  rw [if_pos rfl] at h2
  split at h2
  ·cases h2; exact ho
  ·cases h2
 ·rw [List.getElem?_set_ne hm] at h2
  have hb : b ≠ a := fun z => by
   subst z
   have l1 := (List.getElem?_eq_some_iff.mp hn).1
   exact hm ((List.getElem?_inj l1 h.nd).mp (hn.trans h1.symm))
  exact (h.obj m b oc h1 h2).step (Le.upd (List.mem_of_getElem? hn) e lo u).toLw (Zak hb)
theorem HRep.add {Hd : HD} (h : HRep K H ι Hd) {p : Addr} (hp : p ∉ ι) {o : DO} (ho : Zoy K H (ι ++ [p]) p o) : HRep K H (ι ++ [p]) (Hd ++ [o]) := by
 refine ⟨by simp [h.len], by simp only [List.nodup_append, h.nd, true_and]; exact ⟨by simp, fun a ha b hb e => hp (by simp at hb; rw [← hb, ← e]; exact ha)⟩, fun n a ob h1 h2 => ?_⟩
 by_cases hn : n < ι.length
 ·rw [List.getElem?_append_left hn] at h1
  rw [List.getElem?_append_left (by rw [← h.len]; exact hn)] at h2
  exact (h.obj n a ob h1 h2).step ⟨fun _ _ z => z, fun _ _ z => z, ⟨[p], rfl⟩, fun _ _ _ z => z⟩ rfl
 ·rw [List.getElem?_append_right (by omega)] at h1
  rw [List.getElem?_append_right (by rw [← h.len]; omega)] at h2
  rw [← h.len] at h2
  have : n - ι.length = 0 := by
   have := (List.getElem?_eq_some_iff.mp h1).1
   simp at this; omega
  rw [this] at h1 h2
  simp at h1 h2
  subst h1; subst h2
  exact ho
theorem Lw.side {p : Addr} {ys : List V} (hp : H p = some (.lst ys)) (u : HO) : Lw K H ι (L2.upd H p u) ι where
 tup := fun a xs h => by
  rcases h with (h | ⟨ob, h⟩) | h
  ·refine .inl (.inl ?_)
   rw [Zak (Zkp h hp (by intro z; cases z))]; exact h
  ·refine .inl (.inr ⟨ob, ?_⟩)
   rw [Zak (Zkp h hp (by intro z; cases z))]; exact h
  ·exact .inr h
 fz := fun a xs h => by
  rcases h with ⟨ob, h⟩ | h
  ·refine .inl ⟨ob, ?_⟩
   rw [Zak (Zkp h hp (by intro z; cases z))]; exact h
  ·exact .inr h
 pre := ⟨[], by simp⟩
 fr := fun a ob w h => by rw [Zak (Zkp h hp (by intro z; cases z))]; exact h
theorem Lw.trans {H1 H2 : Hp} {ι1 ι2 : List Addr} (a : Lw K H ι H1 ι1) (b : Lw K H1 ι1 H2 ι2) : Lw K H ι H2 ι2 := by
 refine ⟨fun x xs h => b.tup x xs (a.tup x xs h), fun x xs h => b.fz x xs (a.fz x xs h), ?_, fun x o u h => b.fr x o u (a.fr x o u h)⟩
 obtain ⟨t, e⟩ := a.pre
 obtain ⟨u, e'⟩ := b.pre
 exact ⟨t ++ u, by rw [e', e, List.append_assoc]⟩
theorem Le.side {H1 : Hp} {ι1 : List Addr} {p : Addr} {ys : List V} (l : Le K H ι H1 ι1) (h0 : H p = none) (h1 : H1 p = some (.lst ys)) (u : HO) : Le K H ι (L2.upd H1 p u) ι1 :=
 ⟨l.toLw.trans (Lw.side h1 u), fun a o h n => by
  obtain ⟨q, m⟩ := l.frame a o h n
  exact ⟨by rw [Zak (Zam h h0)]; exact q, m⟩⟩
structure SRep (K : PySem.W.Frag) (H : Hp) (ι : List Addr) (σ : L2.St) (σd : SD) : Prop where
 len : σ.length = σd.length
 var : ∀ (i : Nat) (d : D), σd[i]? = some (some d) -> ∃ v, σ[i]? = some (some v) ∧ Rep K H ι d v
theorem SRep.mono {σ : L2.St} {σd : SD} (s : SRep K H ι σ σd) (l : Le K H ι H' ι') : SRep K H' ι' σ σd :=
 ⟨s.len, fun i d h => let ⟨v, h1, h2⟩ := s.var i d h; ⟨v, h1, h2.mono l⟩⟩
theorem SRep.set {σ : L2.St} {σd : SD} {d : D} {v : V} (s : SRep K H ι σ σd) (r : Rep K H ι d v) (i : Nat) : SRep K H ι (σ.set i (some v)) (σd.set i (some d)) := by
 refine ⟨by simp [s.len], fun j e h => ?_⟩
 by_cases hj : i = j
 ·subst hj
  rw [List.getElem?_set] at h ⊢
  rw [if_pos rfl] at h ⊢
  split at h
  ·rename_i hl
   rw [if_pos (by rw [s.len]; exact hl)]
   cases h
   exact ⟨v, rfl, r⟩
  ·cases h
 ·rw [List.getElem?_set_ne hj] at h ⊢
  exact s.var j e h
end
noncomputable def Zne : Expr -> Bool
 | .Starred _ _ => false
 | _ => true
theorem Zav {e : Expr} {es : List Expr} {env : Env} (h : Zne e = true) : starEach (e :: es) env = (false, eval e env) :: starEach es env := by
 cases e <;> first | rfl | cases h
theorem Zbx {pos : Pos} {env : Env} : ∀ {es : List Expr}, es.all Zne = true -> (backTo pos (starEach es env)).any (·.1) = false
 | [], _ => rfl
 | e :: es, h => by
  rw [List.all_cons, Bool.and_eq_true] at h
  rw [Zav h.1]
  show (false || (backTo pos (starEach es env)).any (·.1)) = false
  rw [Zbx h.2]
  rfl
theorem Znq {pos : Pos} {env : Env} {es : List Expr} (h : es.all Zne = true) (hl : es.length < 30) : ((backTo pos (starEach es env)).all (fun x => !x.1) && (backToKw pos (keywordEach [] env)).all (fun x => x.1.isSome)
   && decide (es.length + ([] : List Keyword).length + (if ([] : List Keyword).isEmpty then 0 else 1) < 30)) = true := by
 have h1 := Zbx (pos := pos) (env := env) h
 have h2 : (backTo pos (starEach es env)).all (fun x => !x.1) = true := by
  rw [List.all_eq_true]
  intro x hx
  rw [List.any_eq_false] at h1
  have := h1 x hx
  simpa using this
 have h3 : decide (es.length + ([] : List Keyword).length + (if ([] : List Keyword).isEmpty then 0 else 1) < 30) = true := by
  rw [decide_eq_true_eq]
  simpa using hl
 rw [h2, h3]
 rfl
noncomputable abbrev EF := SD -> HD -> Option (D × HD)
noncomputable abbrev TF := SD -> HD -> Option (Bool × HD)
noncomputable abbrev AF := SD -> HD -> Option (List D × HD)
inductive FD where
 | nx | bk | ct | rt (d : D)
noncomputable abbrev SF := SD -> HD -> Option (FD × SD × HD)
noncomputable abbrev GF := D -> SD -> HD -> Option (SD × HD)
noncomputable abbrev FF := List D -> HD -> Option (D × HD)
noncomputable abbrev F2 := D -> D -> HD -> Option (D × HD)
noncomputable def QE (K : PySem.W.Frag) (H : Hp) (ι : List Addr) (d : D) (Hd' : HD) (Q : VK) : Prop := ∀ v H' ι', Le K H ι H' ι' -> HRep K H' ι' Hd' -> Rep K H' ι' d v -> Q v H'
noncomputable def rdE (K : PySem.W.Frag) (f : EF) : TE := fun σ H Q => ∃ ι σd Hd d Hd', SRep K H ι σ σd ∧ HRep K H ι Hd ∧ f σd Hd = some (d, Hd') ∧ QE K H ι d Hd' Q
noncomputable def rdT (K : PySem.W.Frag) (f : TF) : TT := fun σ H Q => ∃ ι σd Hd b Hd', SRep K H ι σ σd ∧ HRep K H ι Hd ∧ f σd Hd = some (b, Hd') ∧ ∀ H' ι', Le K H ι H' ι' -> HRep K H' ι' Hd' -> Q b H'
noncomputable def rdA (K : PySem.W.Frag) (f : AF) : TA := fun σ H Q => ∃ ι σd Hd ds Hd', SRep K H ι σ σd ∧ HRep K H ι Hd ∧ f σd Hd = some (ds, Hd') ∧ ∀ vs H' ι', Le K H ι H' ι' -> HRep K H' ι' Hd' -> Paired (Rep K H' ι') ds vs -> Q vs H'
noncomputable def QS (K : PySem.W.Frag) (H : Hp) (ι : List Addr) (fl : FD) (σd' : SD) (Hd' : HD) (E : Ends) : Prop := ∀ σ' H' ι', Le K H ι H' ι' -> HRep K H' ι' Hd' -> SRep K H' ι' σ' σd' →
 match fl with
 | .nx => E.nx σ' H'
 | .bk => E.bk σ' H'
 | .ct => E.ct σ' H'
 | .rt d => ∀ v, Rep K H' ι' d v -> E.rt v H'
noncomputable def rdS (K : PySem.W.Frag) (f : SF) : TS := fun E σ H => ∃ ι σd Hd fl σd' Hd', SRep K H ι σ σd ∧ HRep K H ι Hd ∧ f σd Hd = some (fl, σd', Hd') ∧ QS K H ι fl σd' Hd' E
noncomputable def rdG (K : PySem.W.Frag) (g : GF) : TG := fun v σ H Q => ∃ ι σd Hd d σd' Hd', SRep K H ι σ σd ∧ HRep K H ι Hd ∧ Rep K H ι d v ∧ g d σd Hd = some (σd', Hd') ∧
 ∀ σ' H' ι', Le K H ι H' ι' -> HRep K H' ι' Hd' -> SRep K H' ι' σ' σd' -> Q σ' H'
noncomputable def rd2 (K : PySem.W.Frag) (g : F2) : R2 := fun x y H Q => ∃ ι dx dy Hd d Hd', HRep K H ι Hd ∧ Rep K H ι dx x ∧ Rep K H ι dy y ∧ g dx dy Hd = some (d, Hd') ∧ QE K H ι d Hd' Q
noncomputable def rd1 (K : PySem.W.Frag) (g : D -> HD -> Option (D × HD)) : V -> Hp -> VK -> Prop := fun x H Q => ∃ ι dx Hd d Hd', HRep K H ι Hd ∧ Rep K H ι dx x ∧ g dx Hd = some (d, Hd') ∧ QE K H ι d Hd' Q
noncomputable def rdC (K : PySem.W.Frag) (g : FF) : List V -> Hp -> VK -> Prop := fun vs H Q => ∃ ι ds Hd d Hd', HRep K H ι Hd ∧ Paired (Rep K H ι) ds vs ∧ g ds Hd = some (d, Hd') ∧ QE K H ι d Hd' Q
noncomputable def rdM (K : PySem.W.Frag) (g : D -> List D -> HD -> Option (D × HD)) : V -> List V -> Hp -> VK -> Prop := fun v vs H Q => ∃ ι x ds Hd d Hd', HRep K H ι Hd ∧ Rep K H ι x v ∧ Paired (Rep K H ι) ds vs ∧ g x ds Hd = some (d, Hd') ∧ QE K H ι d Hd' Q
noncomputable def PEf (X : Cx) (e : Expr) (f : EF) : Prop := PE X e (rdE X.K f)
noncomputable def PTf (X : Cx) (e : Expr) (f : TF) : Prop := PT X e (rdT X.K f)
noncomputable def PWf (X : Cx) (e : Expr) (f : TF) : Prop := PW X e (rdT X.K f)
noncomputable def PAf (X : Cx) (es : List Expr) (f : AF) : Prop := PA X es (rdA X.K f)
noncomputable def PSf (X : Cx) (st : Stmt) (f : SF) : Prop := PS X st (rdS X.K f)
noncomputable def Zna (X : Cx) (st : List Stmt) (f : SF) : Prop := PSs X st (rdS X.K f)
noncomputable def PGf (X : Cx) (tg : Expr) (g : GF) : Prop := PG X tg (rdG X.K g)
noncomputable def OpF (X : Cx) (f : Value -> Value -> Sem Value) (g : F2) : Prop := OpR X f (rd2 X.K g)
noncomputable def UnF (X : Cx) (f : Value -> Sem Value) (g : D -> HD -> Option (D × HD)) : Prop := UnR X f (rd1 X.K g)
noncomputable def Zgz (X : Cx) (f : Value) (g : FF) : Prop := Zfl X f (rdC X.K g)
noncomputable def IxF (X : Cx) (g : F2) : Prop := IxR X (rd2 X.K g)
noncomputable def MtF (X : Cx) (id : String) (g : D -> List D -> HD -> Option (D × HD)) : Prop := MtR X id (rdM X.K g)
section
variable {X : Cx} {e a b c : Expr} {es : List Expr} {pos : Pos} {st : Stmt} {sts : List Stmt}
theorem PEi {t t' : TE} (h : PE X e t) (i : ∀ σ H Q, t' σ H Q -> t σ H Q) : PE X e t' := fun pins s σ H Q I q => h pins s σ H Q I (i σ H Q q)
theorem PTi {t t' : TT} (h : PT X e t) (i : ∀ σ H Q, t' σ H Q -> t σ H Q) : PT X e t' := fun pins s σ H Q I q => h pins s σ H Q I (i σ H Q q)
theorem PWi {t t' : TT} (h : PW X e t) (i : ∀ σ H Q, t' σ H Q -> t σ H Q) : PW X e t' := fun wh pins s σ H Q I q => h wh pins s σ H Q I (i σ H Q q)
theorem PAi {t t' : TA} (h : PA X es t) (i : ∀ σ H Q, t' σ H Q -> t σ H Q) : PA X es t' := fun ps pins s σ H Q I q => h ps pins s σ H Q I (i σ H Q q)
theorem PSi {t t' : TS} (h : PS X st t) (i : ∀ E σ H, t' E σ H -> t E σ H) : PS X st t' := fun pins s σ H E I q => h pins s σ H E I (i E σ H q)
theorem Zzh {t t' : TS} (h : PSs X sts t) (i : ∀ E σ H, t' E σ H -> t E σ H) : PSs X sts t' := fun pins s σ H E I q => h pins s σ H E I (i E σ H q)
theorem PGi {t t' : TG} (h : PG X e t) (i : ∀ v σ H Q, t' v σ H Q -> t v σ H Q) : PG X e t' := fun pins s σ H v u Q I r q => h pins s σ H v u Q I r (i v σ H Q q)
theorem OpRi {f : Value -> Value -> Sem Value} {t t' : R2} (h : OpR X f t) (i : ∀ x y H Q, t' x y H Q -> t x y H Q) : OpR X f t' := fun pins s σ H x y v u Q I r1 r2 q => h pins s σ H x y v u Q I r1 r2 (i x y H Q q)
noncomputable def Zac (i : Nat) : EF := fun σ H => (σ[i]?).join.map fun d => (d, H)
noncomputable def eC (d : D) : EF := fun _ H => some (d, H)
theorem Zab {i : Nat} {x : Str} (h : PE X (.Name x pos) (tVar i)) : PEf X (.Name x pos) (Zac i) := by
 refine PEi h fun σ H Q zz => ?_
 obtain ⟨ι, σd, Hd, d, Hd', s, hr, e, q⟩ := zz
 unfold Zac at e
 cases hx : σd[i]? with
 | none => rw [hx] at e; cases e
 | some o =>
  cases o with
  | none => rw [hx] at e; cases e
  | some d0 =>
   rw [hx] at e
   have e' : (d0, Hd) = (d, Hd') := Option.some.inj e
   obtain ⟨rfl, rfl⟩ := Prod.mk.inj e'
   obtain ⟨v, h1, h2⟩ := s.var i d0 hx
   exact ⟨v, h1, q v H ι Le.refl hr h2⟩
theorem Zr4 {v : V} {d : D} (h : PE X e (tC v)) (r : ∀ H ι, Rep X.K H ι d v) : PEf X e (eC d) := by
 refine PEi h fun σ H Q zz => ?_
 obtain ⟨ι, σd, Hd, d', Hd', s, hr, e, q⟩ := zz
 cases e
 exact q v H ι Le.refl hr (r H ι)
theorem Zag {i j} : PEf X (.Constant (.int i) j pos) (eC (.int i)) := Zr4 Zuu fun _ _ => by simp
theorem Zlq {b j} : PEf X (.Constant (.bool b) j pos) (eC (.bl b)) := Zr4 pe_bl fun _ _ => by simp
theorem Zeq {j} : PEf X (.Constant .none j pos) (eC .non) := Zr4 Yak fun _ _ => by simp
theorem Zcq {x j} : PEf X (.Constant (.str x) j pos) (eC (.str x)) := Zr4 Zzr fun _ _ => by simp
noncomputable def eOp (g : F2) (fa fb : EF) : EF := fun σ H => (fa σ H).bind fun p => (fb σ p.2).bind fun q => g p.1 q.1 q.2
theorem Ztr {fa fb : EF} {g : F2} {σ : L2.St} {H : Hp} {Q : VK} {K : PySem.W.Frag} (h : rdE K (eOp g fa fb) σ H Q) : tOp (rd2 K g) (rdE K fa) (rdE K fb) σ H Q := by
 obtain ⟨ι, σd, Hd, d, Hd', s, hr, e, q⟩ := h
 obtain ⟨⟨x, H1⟩, e1, e⟩ := Zo e
 obtain ⟨⟨y, H2⟩, e2, e⟩ := Zo e
 exact ⟨ι, σd, Hd, x, H1, s, hr, e1, fun v1 H1' ι1 l1 h1 r1 => ⟨ι1, σd, H1, y, H2, s.mono l1, h1, e2, fun v2 H2' ι2 l2 h2 r2 =>
  ⟨ι2, x, y, H2, d, Hd', h2, r1.mono l2, r2, e, fun v H' ι' l h r => q v H' ι' ((l1.trans l2).trans l) h r⟩⟩⟩
theorem Zar {op : Operator} {g : F2} {fa fb : EF} (ho : OpF X (binaryOp op) g) (ha : PEf X a fa) (hb : PEf X b fb) : PEf X (.BinOp a op b pos) (eOp g fa fb) :=
 PEi (pe_op ho ha hb) fun _ _ _ h => Ztr h
theorem Zcd {op : CmpOp} {g : F2} {fa fb : EF} (ho : OpF X (compareOp op) g) (ha : PEf X a fa) (hb : PEf X b fb) (hm : behindInMarks op b = false) : PEf X (.Compare a [op] [b] pos) (eOp g fa fb) :=
 PEi (Zwo ho ha hb hm) fun _ _ _ h => Ztr h
theorem Zct {g : F2} {fa fb : EF} (ho : IxF X g) (ha : PEf X a fa) (hb : PEf X b fb) (hs : Zqg b) : PEf X (.Subscript a b pos) (eOp g fa fb) :=
 PEi (pe_ix ho ha hb hs) fun _ _ _ h => Ztr h
noncomputable def eUn (g : D -> HD -> Option (D × HD)) (fa : EF) : EF := fun σ H => (fa σ H).bind fun p => g p.1 p.2
theorem Zng {op : UnaryOp} {g : D -> HD -> Option (D × HD)} {fa : EF} (ho : UnF X (unaryOp op) g) (ha : PEf X a fa) : PEf X (.UnaryOp op a pos) (eUn g fa) := by
 refine PEi (pe_un ho ha) fun σ H Q zz => ?_
 obtain ⟨ι, σd, Hd, d, Hd', s, hr, e, q⟩ := zz
 obtain ⟨⟨x, H1⟩, e1, e⟩ := Zo e
 exact ⟨ι, σd, Hd, x, H1, s, hr, e1, fun v1 H1' ι1 l1 h1 r1 => ⟨ι1, x, H1, d, Hd', h1, r1, e, fun v H' ι' l h r => q v H' ι' (l1.trans l) h r⟩⟩
noncomputable def blD : D -> Option Bool
 | .bl b => some b
 | _ => none
noncomputable def tOf (f : EF) : TF := fun σ H => (f σ H).bind fun p => (blD p.1).map fun b => (b, p.2)
theorem Zjt {K : PySem.W.Frag} {H : Hp} {ι : List Addr} {d : D} {b : Bool} {v : V} (e : blD d = some b) (r : Rep K H ι d v) : v = .bl b := by
 cases d <;> simp [blD] at e
 subst e
 simpa using r
theorem Zas {op : CmpOp} {g : F2} {fa fb : EF} (ho : OpF X (compareOp op) g) (ha : PEf X a fa) (hb : PEf X b fb) (hm : behindInMarks op b = false) : PTf X (.Compare a [op] [b] pos) (tOf (eOp g fa fb)) := by
 refine PTi (Zv4 ho ha hb hm) fun σ H Q zz => ?_
 obtain ⟨ι, σd, Hd, bb, Hd', s, hr, e, q⟩ := zz
 obtain ⟨⟨x, H1⟩, e1, e⟩ := Zo e
 obtain ⟨b', eb, e⟩ := Zm e
 cases e
 exact Ztr ⟨ι, σd, Hd, x, H1, s, hr, e1, fun v H' ι' l h r => ⟨bb, Zjt eb r, q H' ι' l h⟩⟩
noncomputable def Zpn : D -> HD -> Option Bool
 | .non, _ => some false
 | .bl b, _ => some b
 | .int i, _ => some (i != 0)
 | .tup xs, _ => some (!xs.isEmpty)
 | .fl xs, _ => some (!xs.isEmpty)
 | .str x, _ => if x.length ≤ sizeLine then some ((x.length : Int) != 0) else none
 | .ref n, H => match H[n]? with
  | some (.lst xs) => some (!xs.isEmpty)
  | _ => none
 | _, _ => none
theorem Zh6 {α β : Type} {F : α -> β -> Prop} {xs : List α} {us : List β} (r : Paired F xs us) : (!us.isEmpty) = !xs.isEmpty := by cases r <;> rfl
theorem Zv1 {K : PySem.W.Frag} {H : Hp} {ι : List Addr} {Hd : HD} {d : D} {k : Bool} {v : V} (hr : HRep K H ι Hd) (r : Rep K H ι d v) (e : Zpn d Hd = some k) : TruV K v H k := by
 cases d with
 | non => simp at r; subst r; simp [Zpn] at e; subst e; exact rfl
 | bl b => simp at r; subst r; simp [Zpn] at e; subst e; exact rfl
 | int i => simp at r; subst r; simp [Zpn] at e; subst e; exact rfl
 | ty n => simp [Zpn] at e
 | str x =>
  simp at r; subst r
  simp only [Zpn] at e
  split at e
  ·rename_i hl
   cases e
   exact ⟨hl, rfl⟩
  ·cases e
 | tup xs =>
  obtain ⟨ad, vs, rfl, h, p⟩ := Zbd.mp r
  cases (show some (!xs.isEmpty) = some k from e)
  exact .inr (.inl ⟨vs, h, by rw [Zh6 p]⟩)
 | fl xs =>
  obtain ⟨ad, vs, rfl, h, p⟩ := Zfr.mp r
  cases (show some (!xs.isEmpty) = some k from e)
  exact .inl ⟨vs, h.sq, by rw [Zh6 p]⟩
 | ref n =>
  obtain ⟨ad, rfl, h⟩ := Zan.mp r
  simp only [Zpn] at e
  split at e
  ·rename_i xs ho
   cases e
   obtain ⟨vs, h1, p⟩ := hr.obj n ad _ h ho
   exact .inl ⟨vs, SqL.of h1, by rw [Zh6 p]⟩
  ·cases e
noncomputable def Zhq (f : EF) : TF := fun σ H => (f σ H).bind fun p => (Zpn p.1 p.2).map fun b => (b, p.2)
theorem Zfy {fa : EF} (ha : PEf X a fa) (he : ∀ whole, isTrue a X.env whole = (do let v ← whole; standAt a.pos; holding [v] (truthy v))) : PTf X a (Zhq fa) := by
 refine PTi (Ztx ha he) fun σ H Q zz => ?_
 obtain ⟨ι, σd, Hd, bb, Hd', s, hr, e, q⟩ := zz
 obtain ⟨⟨x, H1⟩, e1, e⟩ := Zo e
 obtain ⟨b', eb, e⟩ := Zm e
 cases e
 exact ⟨ι, σd, Hd, x, H1, s, hr, e1, fun v H' ι' l h r => ⟨bb, Zv1 h r eb, q H' ι' l h⟩⟩
noncomputable def tNo (t : TF) : TF := fun σ H => (t σ H).map fun p => (!p.1, p.2)
noncomputable def tAn (t u : TF) : TF := fun σ H => (t σ H).bind fun p => if p.1 = true then u σ p.2 else some (false, p.2)
noncomputable def Zu1 (t u : TF) : TF := fun σ H => (t σ H).bind fun p => if p.1 = true then some (true, p.2) else u σ p.2
theorem Zvc {t : TF} (h : PTf X a t) : PTf X (.UnaryOp .Not a pos) (tNo t) := by
 refine PTi (Zz3 h) fun σ H Q zz => ?_
 obtain ⟨ι, σd, Hd, bb, Hd', s, hr, e, q⟩ := zz
 obtain ⟨⟨x, H1⟩, e1, e⟩ := Zm e
 cases e
 exact ⟨ι, σd, Hd, x, H1, s, hr, e1, fun H' ι' l h => q H' ι' l h⟩
theorem Zjg {t : TF} (h : PTf X a t) : PWf X (.BoolOp .And [a] pos) t := Zxp h
theorem Zwj {t : TF} (h : PTf X a t) : PWf X (.BoolOp .Or [a] pos) t := Ya9 h
theorem Zmn {t u : TF} (h : PTf X a t) (h2 : PWf X (.BoolOp .And (b :: es) pos) u) : PWf X (.BoolOp .And (a :: b :: es) pos) (tAn t u) := by
 refine PWi (Zyh h h2) fun σ H Q zz => ?_
 obtain ⟨ι, σd, Hd, bb, Hd', s, hr, e, q⟩ := zz
 obtain ⟨⟨x, H1⟩, e1, e⟩ := Zo e
 refine ⟨ι, σd, Hd, x, H1, s, hr, e1, fun H' ι' l h => ?_⟩
 cases x with
 | true =>
  rw [if_pos rfl]
  exact ⟨ι', σd, H1, bb, Hd', s.mono l, h, by simpa using e, fun H2 ι2 l2 h2 => q H2 ι2 (l.trans l2) h2⟩
 | false =>
  rw [if_neg (by simp)]
  simp at e
  obtain ⟨rfl, rfl⟩ := e
  exact q H' ι' l h
theorem Zup {t u : TF} (h : PTf X a t) (h2 : PWf X (.BoolOp .Or (b :: es) pos) u) : PWf X (.BoolOp .Or (a :: b :: es) pos) (Zu1 t u) := by
 refine PWi (pw_or h h2) fun σ H Q zz => ?_
 obtain ⟨ι, σd, Hd, bb, Hd', s, hr, e, q⟩ := zz
 obtain ⟨⟨x, H1⟩, e1, e⟩ := Zo e
 refine ⟨ι, σd, Hd, x, H1, s, hr, e1, fun H' ι' l h => ?_⟩
 cases x with
 | true =>
  rw [if_pos rfl]
  simp at e
  obtain ⟨rfl, rfl⟩ := e
  exact q H' ι' l h
 | false =>
  rw [if_neg (by simp)]
  exact ⟨ι', σd, H1, bb, Hd', s.mono l, h, by simpa using e, fun H2 ι2 l2 h2 => q H2 ι2 (l.trans l2) h2⟩
theorem PWf.pt {t : TF} (h : PWf X a t) : PTf X a t := h _
noncomputable def eNo (f : EF) : EF := fun σ H => (f σ H).bind fun p => (blD p.1).map fun b => (.bl (!b), p.2)
noncomputable def eAn (f g : EF) : EF := fun σ H => (f σ H).bind fun p => (blD p.1).bind fun b => if b = true then g σ p.2 else some (.bl false, p.2)
noncomputable def eOrr (f g : EF) : EF := fun σ H => (f σ H).bind fun p => (blD p.1).bind fun b => if b = true then some (.bl true, p.2) else g σ p.2
noncomputable def eIf (t : TF) (f g : EF) : EF := fun σ H => (t σ H).bind fun p => if p.1 = true then f σ p.2 else g σ p.2
theorem Zwr {f : EF} (h : PEf X a f) : PEf X (.UnaryOp .Not a pos) (eNo f) := by
 refine PEi (Zye h) fun σ H Q zz => ?_
 obtain ⟨ι, σd, Hd, d, Hd', s, hr, e, q⟩ := zz
 obtain ⟨⟨x, H1⟩, e1, e⟩ := Zo e
 obtain ⟨b', eb, e⟩ := Zm e
 cases e
 exact ⟨ι, σd, Hd, x, H1, s, hr, e1, fun v H' ι' l h r => ⟨b', Zjt eb r, q _ H' ι' l h (by simp)⟩⟩
theorem Zq5 {op} {f : EF} (h : PEf X a f) : PEf X (.BoolOp op [a] pos) f := Zyi h
theorem Zxs {f g : EF} (h : PEf X a f) (h2 : PEf X (.BoolOp .And (b :: es) pos) g) : PEf X (.BoolOp .And (a :: b :: es) pos) (eAn f g) := by
 refine PEi (Ya7 h h2) fun σ H Q zz => ?_
 obtain ⟨ι, σd, Hd, d, Hd', s, hr, e, q⟩ := zz
 obtain ⟨⟨x, H1⟩, e1, e⟩ := Zo e
 obtain ⟨b', eb, e⟩ := Zo e
 refine ⟨ι, σd, Hd, x, H1, s, hr, e1, fun v H' ι' l h r => ⟨b', Zjt eb r, ?_⟩⟩
 cases b' with
 | true =>
  rw [if_pos rfl]
  exact ⟨ι', σd, H1, d, Hd', s.mono l, h, by simpa using e, fun v2 H2 ι2 l2 h2 r2 => q v2 H2 ι2 (l.trans l2) h2 r2⟩
 | false =>
  rw [if_neg (by simp)]
  simp at e
  obtain ⟨rfl, rfl⟩ := e
  exact q _ H' ι' l h (by simp)
theorem Zyq {f g : EF} (h : PEf X a f) (h2 : PEf X (.BoolOp .Or (b :: es) pos) g) : PEf X (.BoolOp .Or (a :: b :: es) pos) (eOrr f g) := by
 refine PEi (pe_or h h2) fun σ H Q zz => ?_
 obtain ⟨ι, σd, Hd, d, Hd', s, hr, e, q⟩ := zz
 obtain ⟨⟨x, H1⟩, e1, e⟩ := Zo e
 obtain ⟨b', eb, e⟩ := Zo e
 refine ⟨ι, σd, Hd, x, H1, s, hr, e1, fun v H' ι' l h r => ⟨b', Zjt eb r, ?_⟩⟩
 cases b' with
 | true =>
  rw [if_pos rfl]
  simp at e
  obtain ⟨rfl, rfl⟩ := e
  exact q _ H' ι' l h (by simp)
 | false =>
  rw [if_neg (by simp)]
  exact ⟨ι', σd, H1, d, Hd', s.mono l, h, by simpa using e, fun v2 H2 ι2 l2 h2 r2 => q v2 H2 ι2 (l.trans l2) h2 r2⟩
theorem Zi3 {t : TF} {f g : EF} (hc : PTf X c t) (ha : PEf X a f) (hb : PEf X b g) : PEf X (.IfExp c a b pos) (eIf t f g) := by
 refine PEi (Ztn hc ha hb) fun σ H Q zz => ?_
 obtain ⟨ι, σd, Hd, d, Hd', s, hr, e, q⟩ := zz
 obtain ⟨⟨x, H1⟩, e1, e⟩ := Zo e
 refine ⟨ι, σd, Hd, x, H1, s, hr, e1, fun H' ι' l h => ?_⟩
 cases x with
 | true =>
  rw [if_pos rfl]
  exact ⟨ι', σd, H1, d, Hd', s.mono l, h, by simpa using e, fun v2 H2 ι2 l2 h2 r2 => q v2 H2 ι2 (l.trans l2) h2 r2⟩
 | false =>
  rw [if_neg (by simp)]
  exact ⟨ι', σd, H1, d, Hd', s.mono l, h, by simpa using e, fun v2 H2 ι2 l2 h2 r2 => q v2 H2 ι2 (l.trans l2) h2 r2⟩
noncomputable def Zae : AF := fun _ H => some ([], H)
noncomputable def Zaa (f : EF) (g : AF) : AF := fun σ H => (f σ H).bind fun p => (g σ p.2).map fun q => (p.1 :: q.1, q.2)
theorem Zgd : PAf X [] Zae := by
 refine PAi Zim fun σ H Q zz => ?_
 obtain ⟨ι, σd, Hd, d, Hd', s, hr, e, q⟩ := zz
 cases e
 exact q [] H ι Le.refl hr .nil
theorem Zha {f : EF} {g : AF} (ha : PEf X e f) (hr : PAf X es g) (hs : starEach (e :: es) X.env = (false, eval e X.env) :: starEach es X.env := by exact Zav rfl) : PAf X (e :: es) (Zaa f g) := by
 refine PAi (Zdx ha hr hs) fun σ H Q zz => ?_
 obtain ⟨ι, σd, Hd, d, Hd', s, hr, e, q⟩ := zz
 obtain ⟨⟨x, H1⟩, e1, e⟩ := Zo e
 obtain ⟨⟨y, H2⟩, e2, e⟩ := Zm e
 cases e
 exact ⟨ι, σd, Hd, x, H1, s, hr, e1, fun v1 H1' ι1 l1 h1 r1 => ⟨ι1, σd, H1, y, H2, s.mono l1, h1, e2, fun vs H2' ι2 l2 h2 r2 => q _ H2' ι2 (l1.trans l2) h2 (.cons (r1.mono l2) r2)⟩⟩
noncomputable def mkT (xs : List D) (H : HD) : Option (D × HD) := if xs.length ≤ sizeLine then some (.tup xs, H) else none
noncomputable def mkL (xs : List D) (H : HD) : Option (D × HD) := if xs.length ≤ sizeLine then some (.ref H.length, H ++ [.lst xs]) else none
theorem Zg4 {xs : List D} {H : HD} {r : D × HD} (h : mkT xs H = some r) : xs.length ≤ sizeLine ∧ r = (.tup xs, H) := by
 unfold mkT at h
 split at h
 ·rename_i hl; cases h; exact ⟨hl, rfl⟩
 ·cases h
theorem Zjc {xs : List D} {H : HD} {r : D × HD} (h : mkL xs H = some r) : xs.length ≤ sizeLine ∧ r = (.ref H.length, H ++ [.lst xs]) := by
 unfold mkL at h
 split at h
 ·rename_i hl; cases h; exact ⟨hl, rfl⟩
 ·cases h
theorem Zhy {K : PySem.W.Frag} {H : Hp} {ι : List Addr} {Hd Hd' : HD} {xs : List D} {vs : List V} {d : D} {Q : VK} (hr : HRep K H ι Hd) (r : Paired (Rep K H ι) xs vs) (e : mkT xs Hd = some (d, Hd')) (q : QE K H ι d Hd' Q) :
  vs.length ≤ sizeLine ∧ ∀ p, H p = none -> Q (.ref p) (upd H p (.tup vs)) := by
 obtain ⟨hl, e⟩ := Zg4 e
 cases e
 refine ⟨by rw [← Prd.len r]; exact hl, fun p hp => ?_⟩
 exact q _ _ ι (Le.fresh hp _) (hr.tup hp _) (Zbd.mpr ⟨p, vs, rfl, SqT.of Zaq, Prd.mono (Le.fresh hp _) r⟩)
theorem Zff {K : PySem.W.Frag} {H : Hp} {ι : List Addr} {Hd Hd' : HD} {xs : List D} {vs : List V} {d : D} {Q : VK} (hr : HRep K H ι Hd) (r : Paired (Rep K H ι) xs vs) (e : mkL xs Hd = some (d, Hd')) (q : QE K H ι d Hd' Q) :
  vs.length ≤ sizeLine ∧ ∀ p, H p = none -> Q (.ref p) (upd H p (.lst vs)) := by
 obtain ⟨hl, e⟩ := Zjc e
 cases e
 refine ⟨by rw [← Prd.len r]; exact hl, fun p hp => ?_⟩
 refine q _ _ (ι ++ [p]) (Le.fresh1 hp _) (hr.new hp ⟨vs, Zaq, Prd.mono (Le.fresh1 hp _) r⟩) (Zan.mpr ⟨p, rfl, ?_⟩)
 rw [← hr.len]; simp
noncomputable def Zfk (f : AF) : EF := fun σ H => (f σ H).bind fun p => mkT p.1 p.2
noncomputable def Zds (f : AF) : EF := fun σ H => (f σ H).bind fun p => mkL p.1 p.2
theorem Zrl {f : AF} {x1} (h : PAf X es f) : PEf X (.Tuple es x1 pos) (Zfk f) := by
 refine PEi (Zuk h) fun σ H Q zz => ?_
 obtain ⟨ι, σd, Hd, d, Hd', s, hr, e, q⟩ := zz
 obtain ⟨⟨x, H1⟩, e1, e⟩ := Zo e
 exact ⟨ι, σd, Hd, x, H1, s, hr, e1, fun vs H' ι' l h r => Zhy h r e fun v2 H2 ι2 l2 h2 r2 => q v2 H2 ι2 (l.trans l2) h2 r2⟩
theorem Zps {f : AF} (h : PAf X es f) : PEf X (.List es pos) (Zds f) := by
 refine PEi (Zzu h) fun σ H Q zz => ?_
 obtain ⟨ι, σd, Hd, d, Hd', s, hr, e, q⟩ := zz
 obtain ⟨⟨x, H1⟩, e1, e⟩ := Zo e
 exact ⟨ι, σd, Hd, x, H1, s, hr, e1, fun vs H' ι' l h r => Zff h r e fun v2 H2 ι2 l2 h2 r2 => q v2 H2 ι2 (l.trans l2) h2 r2⟩
noncomputable def eCB (g : FF) (f : AF) : EF := fun σ H => (f σ H).bind fun p => g p.1 p.2
theorem Zyb {f : AF} {g : FF} {σ : L2.St} {H : Hp} {Q : VK} {K : PySem.W.Frag} (h : rdE K (eCB g f) σ H Q) : tCB (rdC K g) (rdA K f) σ H Q := by
 obtain ⟨ι, σd, Hd, d, Hd', s, hr, e, q⟩ := h
 obtain ⟨⟨x, H1⟩, e1, e⟩ := Zo e
 exact ⟨ι, σd, Hd, x, H1, s, hr, e1, fun vs H' ι' l h r => ⟨ι', x, H1, d, Hd', h, r, e, fun v2 H2 ι2 l2 h2 r2 => q v2 H2 ι2 (l.trans l2) h2 r2⟩⟩
theorem Zc4 {x : Str} {id : String} {g : FF} {f : AF} {p : Pos} (hc : Zgz X (.builtin id) g) (hg : Gl X x) (hm : X.mg x = none) (hv : bootBuiltins x = some (.builtin id)) (ha : PAf X (e :: es) f) (hn : x ≠ "__name__" := by decide) (hdb : (x == ("__debug__" : Str)) = false := by decide)
  (he : starEach (e :: es) X.env = (false, eval e X.env) :: starEach es X.env := by exact Zav rfl) (hpl : (backTo pos (starEach es X.env)).any (·.1) = false := by exact Zbx rfl) : PEf X (.Call (.Name x p) (e :: es) [] pos) (eCB g f) :=
 PEi (Zg5 hc hg hm hv ha hn hdb he hpl) fun _ _ _ h => Zyb h
theorem Zgg {x : Str} {T : String} {g : FF} {f : AF} {p : Pos} (hc : Zgz X (.type T) g) (hg : Gl X x) (hm : X.mg x = none) (hv : bootBuiltins x = some (.type T)) (ha : PAf X (e :: es) f) (hn : x ≠ "__name__" := by decide) (hdb : (x == ("__debug__" : Str)) = false := by decide)
  (he : starEach (e :: es) X.env = (false, eval e X.env) :: starEach es X.env := by exact Zav rfl) (hpl : (backTo pos (starEach es X.env)).any (·.1) = false := by exact Zbx rfl) : PEf X (.Call (.Name x p) (e :: es) [] pos) (eCB g f) :=
 PEi (Zki hc hg hm hv ha hn hdb he hpl) fun _ _ _ h => Zyb h
noncomputable def spF (K : PySem.W.Frag) (n : Nat) (F : FF) : Sp := fun vs H Q _ => ∃ ι ds Hd d Hd', ds.length = n ∧ HRep K H ι Hd ∧ Paired (Rep K H ι) ds vs ∧ F ds Hd = some (d, Hd') ∧ QE K H ι d Hd' Q
noncomputable def Zai (n : Nat) (F : FF) (f : AF) : EF := fun σ H => (f σ H).bind fun p => if p.1.length = n then F p.1 p.2 else none
theorem Zsr {k n : Nat} {f : Addr} {fd : FuncData} {ps : List Str} {x : Str} {p : Pos} {F : FF} {fa : AF} (G : FnOk X.prog X.w X.K X.mg X.base CX0 k f fd ps (spF X.K n F)) (hr : Room k X.A) (hg : Gl X x) (hm : X.mg x = some (.ref f)) (hk : PySem.W.keepIn X.K (.ref f) = true)
  (hb : Zfd X.K fd ps []) (ha : PAf X (e :: es) fa) (hdb : (x == ("__debug__" : Str)) = false := by decide) (he : starEach (e :: es) X.env = (false, eval e X.env) :: starEach es X.env := by exact Zav rfl) (hpl : (backTo pos (starEach es X.env)).any (·.1) = false := by exact Zbx rfl) :
  PEf X (.Call (.Name x p) (e :: es) [] pos) (Zai n F fa) := by
 refine PEi (Zxi (E := E0) G hr hg hm hk hb .nil Zsn ha hdb he hpl) fun σ H Q zz => ?_
 obtain ⟨ι, σd, Hd, d, Hd', s, hr, e, q⟩ := zz
 obtain ⟨⟨x, H1⟩, e1, e⟩ := Zo e
 refine ⟨ι, σd, Hd, x, H1, s, hr, e1, fun vs H' ι' l h r => ?_⟩
 dsimp only at e
 split at e
 ·rename_i hl
  exact ⟨ι', x, H1, d, Hd', hl, h, by simpa using r, e, fun v2 H2 ι2 l2 h2 r2 => q v2 H2 ι2 (l.trans l2) h2 r2⟩
 ·cases e
noncomputable def Zmc : D -> HD -> Bool
 | .ref n, H => match H[n]? with
  | some (.lst _) => true
  | _ => false
 | _, _ => false
theorem Ztu {K : PySem.W.Frag} {H : Hp} {ι : List Addr} {Hd : HD} {d : D} {v : V} (hr : HRep K H ι Hd) (r : Rep K H ι d v) (e : Zmc d Hd = true) : tyV K "list" v H := by
 cases d with
 | ref n =>
  obtain ⟨ad, rfl, h⟩ := Zan.mp r
  simp only [Zmc] at e
  split at e
  ·rename_i xs ho
   obtain ⟨vs, h1, p⟩ := hr.obj n ad _ h ho
   exact .inl ⟨rfl, vs, SqL.of h1⟩
  ·cases e
 | _ => simp [Zmc] at e
noncomputable def eLM (g : D -> List D -> HD -> Option (D × HD)) (fo : EF) (f : AF) : EF := fun σ H => (fo σ H).bind fun o => if Zmc o.1 o.2 = true then (f σ o.2).bind fun p => g o.1 p.1 p.2 else none
theorem Zf3 {o : Expr} {name : Str} {apos cpos : Pos} {id : String} {g : D → List D → HD → Option (D × HD)} {fo : EF} {f : AF} (slot : Slot "list" name id) (hty : typeOf (.builtin id) = pure (.type "method_descriptor")) (hm : MtF X id g) (ho : PEf X o fo) (ha : PAf X (e :: es) f)
  (hbase : attributeBase o name X.env (eval o X.env) = eval o X.env := by rfl)
  (hfew : ((backTo cpos (starEach (e :: es) X.env)).all (fun x => !x.1) && (backToKw cpos (keywordEach [] X.env)).all (fun x => x.1.isSome)
   && decide ((e :: es).length + ([] : List Keyword).length + (if ([] : List Keyword).isEmpty then 0 else 1) < 30)) = true := by exact Znq rfl (by decide))
  (hline : (apos.endLine == cpos.line) = true := by rfl) (hs : starEach (e :: es) X.env = (false, eval e X.env) :: starEach es X.env := by exact Zav rfl) (hplain : (backTo cpos (starEach es X.env)).any (·.1) = false := by exact Zbx rfl) :
  PEf X (.Call (.Attribute o name apos) (e :: es) [] cpos) (eLM g fo f) := by
 refine PEi (pe_bm PySem.F.plainAttrs_list slot hty hm ho ha hbase hfew hline hs hplain) fun σ H Q zz => ?_
 obtain ⟨ι, σd, Hd, d, Hd', s, hr, e, q⟩ := zz
 obtain ⟨⟨x, H1⟩, e1, e⟩ := Zo e
 dsimp only at e
 split at e
 ·rename_i hl
  obtain ⟨⟨y, H2⟩, e2, e⟩ := Zo e
  exact ⟨ι, σd, Hd, x, H1, s, hr, e1, fun v1 H1' ι1 l1 h1 r1 => ⟨Ztu h1 r1 hl, ι1, σd, H1, y, H2, s.mono l1, h1, e2, fun vs H2' ι2 l2 h2 r2 =>
   ⟨ι2, x, y, H2, d, Hd', h2, r1.mono l2, r2, e, fun v H' ι' l h r => q v H' ι' ((l1.trans l2).trans l) h r⟩⟩⟩
 ·cases e
noncomputable def Zaj : SF := fun σ H => some (.nx, σ, H)
noncomputable def Zaf (f g : SF) : SF := fun σ H => (f σ H).bind fun r => match r.1 with
 | .nx => g r.2.1 r.2.2
 | _ => some r
theorem Zj8 : Zna X [] Zaj := by
 refine Zzh Zxf fun E σ H zz => ?_
 obtain ⟨ι, σd, Hd, fl, σd', Hd', s, hr, e, q⟩ := zz
 cases e
 exact q σ H ι Le.refl hr s
theorem Zh2 {f g : SF} (h1 : PSf X st f) (h2 : Zna X sts g) : Zna X (st :: sts) (Zaf f g) := by
 refine Zzh (Zg3 h1 h2) fun E σ H zz => ?_
 obtain ⟨ι, σd, Hd, fl, σd', Hd', s, hr, e, q⟩ := zz
 obtain ⟨⟨f1, σ1, H1⟩, e1, e⟩ := Zo e
 refine ⟨ι, σd, Hd, f1, σ1, H1, s, hr, e1, fun σ' H' ι' l h ss => ?_⟩
 cases f1 with
 | nx => exact ⟨ι', σ1, H1, fl, σd', Hd', ss, h, e, fun σ2 H2 ι2 l2 h2 s2 => q σ2 H2 ι2 (l.trans l2) h2 s2⟩
 | bk => cases e; exact q σ' H' ι' l h ss
 | ct => cases e; exact q σ' H' ι' l h ss
 | rt d => cases e; exact q σ' H' ι' l h ss
noncomputable def Zbi (f : EF) : SF := fun σ H => (f σ H).map fun p => (.rt p.1, σ, p.2)
theorem Zc3 {f : EF} (he : PEf X e f) : PSf X (.Return (some e) pos) (Zbi f) := by
 refine PSi (Ya2 he) fun E σ H zz => ?_
 obtain ⟨ι, σd, Hd, fl, σd', Hd', s, hr, e, q⟩ := zz
 obtain ⟨⟨x, H1⟩, e1, e⟩ := Zm e
 cases e
 exact ⟨ι, σd, Hd, x, H1, s, hr, e1, fun v H' ι' l h r => q σ H' ι' l h (s.mono l) v r⟩
noncomputable def Zel (f : EF) : SF := fun σ H => (f σ H).map fun p => (.nx, σ, p.2)
theorem Zsp {f : EF} (he : PEf X e f) (hs : swapsWith e none pos.line X.env = pure false := by rfl) : PSf X (.Expr e pos) (Zel f) := by
 refine PSi (Zwe he hs) fun E σ H zz => ?_
 obtain ⟨ι, σd, Hd, fl, σd', Hd', s, hr, e, q⟩ := zz
 obtain ⟨⟨x, H1⟩, e1, e⟩ := Zm e
 cases e
 exact ⟨ι, σd, Hd, x, H1, s, hr, e1, fun v H' ι' l h r => q σ H' ι' l h (s.mono l)⟩
noncomputable def sIf (t : TF) (f g : SF) : SF := fun σ H => (t σ H).bind fun p => if p.1 = true then f σ p.2 else g σ p.2
theorem Znv {t : TF} {f g : SF} {as bs : List Stmt} (hc : PTf X c t) (ha : Zna X as f) (hb : Zna X bs g) : PSf X (.If c as bs pos) (sIf t f g) := by
 refine PSi (Yaw hc ha hb) fun E σ H zz => ?_
 obtain ⟨ι, σd, Hd, fl, σd', Hd', s, hr, e, q⟩ := zz
 obtain ⟨⟨x, H1⟩, e1, e⟩ := Zo e
 refine ⟨ι, σd, Hd, x, H1, s, hr, e1, fun H' ι' l h => ?_⟩
 cases x with
 | true =>
  rw [if_pos rfl]
  exact ⟨ι', σd, H1, fl, σd', Hd', s.mono l, h, by simpa using e, fun σ2 H2 ι2 l2 h2 s2 => q σ2 H2 ι2 (l.trans l2) h2 s2⟩
 | false =>
  rw [if_neg (by simp)]
  exact ⟨ι', σd, H1, fl, σd', Hd', s.mono l, h, by simpa using e, fun σ2 H2 ι2 l2 h2 s2 => q σ2 H2 ι2 (l.trans l2) h2 s2⟩
noncomputable def Za0 (i : Nat) (f : EF) : SF := fun σ H => (f σ H).map fun p => (.nx, σ.set i (some p.1), p.2)
theorem Zbb {i : Nat} {x : Str} {f : EF} {pos' : Pos} (hN : X.N.Nodup) (hi : X.N[i]? = some x) (hx : Loc X.env.scope x) (he : PEf X e f) (hs : swapsWith e (some (.Name x pos')) pos.line X.env = pure false := by rfl) (hf : X.fn x = true ∨ X.env.scope.names.lookup x = some .local := by first | exact .inl rfl | exact .inr rfl | assumption) :
  PSf X (.Assign [.Name x pos'] e pos) (Za0 i f) := by
 refine PSi (Yax hN hi hx he hs hf) fun E σ H zz => ?_
 obtain ⟨ι, σd, Hd, fl, σd', Hd', s, hr, e, q⟩ := zz
 obtain ⟨⟨x, H1⟩, e1, e⟩ := Zm e
 cases e
 exact ⟨ι, σd, Hd, x, H1, s, hr, e1, fun v H' ι' l h r => q _ H' ι' l h ((s.mono l).set r i)⟩
noncomputable def gNm (i : Nat) : GF := fun d σ H => some (σ.set i (some d), H)
theorem Za9 {i : Nat} {x : Str} (hN : X.N.Nodup) (hi : X.N[i]? = some x) (hx : Loc X.env.scope x) (hf : X.fn x = true ∨ X.env.scope.names.lookup x = some .local := by first | exact .inl rfl | exact .inr rfl | assumption) : PGf X (.Name x pos) (gNm i) := by
 refine PGi (Zkd hN hi hx hf) fun v σ H Q zz => ?_
 obtain ⟨ι, σd, Hd, d, σd', Hd', s, hr, r, e, q⟩ := zz
 cases e
 exact q _ H ι Le.refl hr (s.set r i)
noncomputable abbrev Zv8 := D -> D -> D -> HD -> Option HD
noncomputable def rdSet (K : PySem.W.Frag) (g : Zv8) : TSet := fun o i v H Q => ∃ ι od id vd Hd Hd', HRep K H ι Hd ∧ Rep K H ι od o ∧ Rep K H ι id i ∧ Rep K H ι vd v ∧ g od id vd Hd = some Hd' ∧ ∀ H' ι', Le K H ι H' ι' -> HRep K H' ι' Hd' -> Q H'
noncomputable def Zwq (X : Cx) (g : Zv8) : Prop := PSet X (rdSet X.K g)
noncomputable def gSb (fo fi : EF) (g : Zv8) : GF := fun d σ H => (fo σ H).bind fun o => (fi σ o.2).bind fun i => (g o.1 i.1 d i.2).map fun H' => (σ, H')
theorem Zjp {o i : Expr} {fo fi : EF} {g : Zv8} (ho : PEf X o fo) (hi : PEf X i fi) (hs : Zwq X g)
  (ha : ∀ v, assign (.Subscript o i pos) X.env v = (do
   let ov ← holding [v] (eval o X.env)
   let iv ← holding [v, ov] (eval i X.env)
   standAt pos
   holding [v, ov, iv] (setItem ov iv v)
   release [v, ov, iv] []) := by intro _; rfl) : PGf X (.Subscript o i pos) (gSb fo fi g) := by
 refine PGi (Zz6 ho hi hs ha) fun v σ H Q zz => ?_
 obtain ⟨ι, σd, Hd, d, σd', Hd', s, hr, r, e, q⟩ := zz
 obtain ⟨⟨x, H1⟩, e1, e⟩ := Zo e
 obtain ⟨⟨y, H2⟩, e2, e⟩ := Zo e
 obtain ⟨H3, e3, e⟩ := Zm e
 obtain ⟨rfl, rfl⟩ := Prod.mk.inj e
 exact ⟨ι, σd, Hd, x, H1, s, hr, e1, fun v1 H1' ι1 l1 h1 r1 => ⟨ι1, σd, H1, y, H2, s.mono l1, h1, e2, fun v2 H2' ι2 l2 h2 r2 =>
  ⟨ι2, x, y, d, H2, H3, h2, r1.mono l2, r2, r.mono (l1.trans l2), e3, fun H' ι' l h => q σ H' ι' ((l1.trans l2).trans l) h (s.mono ((l1.trans l2).trans l))⟩⟩⟩
noncomputable abbrev GFs := List D -> SD -> HD -> Option (SD × HD)
noncomputable def rdGs (K : PySem.W.Frag) (g : GFs) : TGs := fun vs σ H Q => ∃ ι σd Hd ds σd' Hd', SRep K H ι σ σd ∧ HRep K H ι Hd ∧ Paired (Rep K H ι) ds vs ∧ g ds σd Hd = some (σd', Hd') ∧
 ∀ σ' H' ι', Le K H ι H' ι' -> HRep K H' ι' Hd' -> SRep K H' ι' σ' σd' -> Q σ' H'
noncomputable def PGsf (X : Cx) (ts : List Expr) (g : GFs) : Prop := PGs X ts (rdGs X.K g)
noncomputable def gNl : GFs := fun ds σ H => match ds with
 | [] => some (σ, H)
 | _ => none
noncomputable def gCn (g : GF) (h : GFs) : GFs := fun ds σ H => match ds with
 | d :: r => (g d σ H).bind fun p => h r p.1 p.2
 | [] => none
theorem PGsi {ts : List Expr} {t t' : TGs} (h : PGs X ts t) (i : ∀ v σ H Q, t' v σ H Q -> t v σ H Q) : PGs X ts t' := fun pins s σ H v u Q I r q => h pins s σ H v u Q I r (i v σ H Q q)
theorem Zkc : PGsf X [] gNl := by
 refine PGsi Zq0 fun vs σ H Q zz => ?_
 obtain ⟨ι, σd, Hd, ds, σd', Hd', s, hr, r, e, q⟩ := zz
 cases r with
 | nil => cases e; exact ⟨rfl, q σ H ι Le.refl hr s⟩
 | cons _ _ => cases e
theorem Zf0 {g : GF} {h : GFs} (h1 : PGf X e g) (h2 : PGsf X es h) (hs : (assignEach (e :: es) X.env).map (·.2) = assign e X.env :: (assignEach es X.env).map (·.2) := by rfl) : PGsf X (e :: es) (gCn g h) := by
 refine PGsi (Zjw h1 h2 hs) fun vs σ H Q zz => ?_
 obtain ⟨ι, σd, Hd, ds, σd', Hd', s, hr, r, e, q⟩ := zz
 cases r with
 | nil => cases e
 | cons r rr =>
  obtain ⟨⟨σ1, H1⟩, e1, e⟩ := Zo e
  exact ⟨_, _, rfl, ι, σd, Hd, _, σ1, H1, s, hr, r, e1, fun σ' H' ι' l h ss => ⟨ι', σ1, H1, _, σd', Hd', ss, h, Prd.mono l rr, e, fun σ2 H2 ι2 l2 h2 s2 => q σ2 H2 ι2 (l.trans l2) h2 s2⟩⟩
noncomputable def gTp (n : Nat) (g : GFs) : GF := fun d σ H => match d with
 | .tup ds => if ds.length = n then g ds σ H else none
 | _ => none
theorem Zmw {k n : Nat} {g : GFs} (hc : X.calm = true) (h : PGsf X es g) (hn : (assignEach es X.env).length = n := by rfl) (hst : (assignEach es X.env).findIdx? (·.1) = none := by rfl) : PGf X (.Tuple es k pos) (gTp n g) := by
 refine PGi (Zu0 hc h hn hst) fun v σ H Q zz => ?_
 obtain ⟨ι, σd, Hd, d, σd', Hd', s, hr, r, e, q⟩ := zz
 cases d with
 | tup ds =>
  obtain ⟨a, vs, rfl, h1, p⟩ := Zbd.mp r
  simp only [gTp] at e
  split at e
  ·rename_i hl
   exact ⟨a, vs, rfl, h1, by rw [← Prd.len p]; exact hl, ι, σd, Hd, ds, σd', Hd', s, hr, p, e, q⟩
  ·cases e
 | _ => simp [gTp] at e
noncomputable def Zod (f : EF) (g : GF) : SF := fun σ H => (f σ H).bind fun p => (g p.1 σ p.2).map fun q => (.nx, q.1, q.2)
theorem Zvf {tg : Expr} {f : EF} {g : GF} (he : PEf X e f) (hg : PGf X tg g) (hs : swapsWithSole [tg] e pos.line X.env = pure false := by rfl) (hw : swappedStores [tg] e X.env = pure none := by rfl)
  (h1 : (assignEach [tg] X.env).map (·.2) = [assign tg X.env] := by rfl) : PSf X (.Assign [tg] e pos) (Zod f g) := by
 refine PSi (Yan he hg hs hw h1) fun E σ H zz => ?_
 obtain ⟨ι, σd, Hd, fl, σd', Hd', s, hr, e, q⟩ := zz
 obtain ⟨⟨x, H1⟩, e1, e⟩ := Zo e
 obtain ⟨⟨σ2, H2⟩, e2, e⟩ := Zm e
 cases e
 exact ⟨ι, σd, Hd, x, H1, s, hr, e1, fun v H' ι' l h r => ⟨ι', σd, H1, x, σ2, H2, s.mono l, h, r, e2, fun σ3 H3 ι3 l3 h3 s3 => q σ3 H3 ι3 (l.trans l3) h3 s3⟩⟩
noncomputable abbrev Zgy := List (Nat × DO)
noncomputable def Zcj (own : Zgy) (H : HD) : Prop := ∀ p ∈ own, H[p.1]? = some p.2
noncomputable abbrev ItF := SD -> HD -> Option ((List D × Zgy) × HD)
structure ItRep (K : PySem.W.Frag) (J : It) (xs : List D) (own : Zgy) (H0 : Hp) (ι0 : List Addr) : Prop where
 go : ∀ i H ι Hd, Le K H0 ι0 H ι -> HRep K H ι Hd -> Zcj own Hd -> i < xs.length -> J.go i H
 yld : ∀ i H ι Hd d x H', Le K H0 ι0 H ι -> HRep K H ι Hd -> Zcj own Hd -> xs[i]? = some d -> J.yld i H x H' -> ∃ ι', Le K H ι H' ι' ∧ HRep K H' ι' Hd ∧ Rep K H' ι' d x
 stop : ∀ i H ι Hd, Le K H0 ι0 H ι -> HRep K H ι Hd -> Zcj own Hd -> xs.length ≤ i -> J.stop i H
noncomputable def rdI (K : PySem.W.Frag) (f : ItF) : TI := fun σ H R => ∃ ι σd Hd xs own Hd', SRep K H ι σ σd ∧ HRep K H ι Hd ∧ f σd Hd = some ((xs, own), Hd') ∧ ∀ J H' ι', Le K H ι H' ι' -> HRep K H' ι' Hd' -> ItRep K J xs own H' ι' -> R J H'
noncomputable def PIf (X : Cx) (tg iter : Expr) (f : ItF) : Prop := PI X tg iter (rdI X.K f)
theorem PIi {tg iter : Expr} {t t' : TI} (h : PI X tg iter t) (i : ∀ σ H R, t' σ H R -> t σ H R) : PI X tg iter t' := fun pins s σ H R I q => h pins s σ H R I (i σ H R q)
open Classical in
noncomputable def Zf4 (own : Zgy) (g : GF) (body : SF) : List D -> SF
 | [], σ, H => if Zcj own H then some (.nx, σ, H) else none
 | x :: r, σ, H => if Zcj own H then (g x σ H).bind fun p => (body p.1 p.2).bind fun q => match q.1 with
   | .nx => Zf4 own g body r q.2.1 q.2.2
   | .ct => Zf4 own g body r q.2.1 q.2.2
   | .bk => some (.nx, q.2.1, q.2.2)
   | .rt d => some (.rt d, q.2.1, q.2.2)
  else none
noncomputable def Zft (it : ItF) (g : GF) (body : SF) : SF := fun σ H => (it σ H).bind fun p => Zf4 p.1.2 g body p.1.1 σ p.2
theorem Zxr {tg iter : Expr} {body : List Stmt} {f : ItF} {g : GF} {b : SF} (hp : PassesOwn (model X.prog X.w) X.A X.env X.xe) (hc : X.calm = true) (hi : PIf X tg iter f) (hg : PGf X tg g) (hb : Zna X body b)
  (hs : ∀ x, foldedSetIterable iter X.env x = pure x := by intro _; rfl) : PSf X (.For tg iter body [] pos) (Zft f g b) := by
 refine PSi (Yau hp hc hi hg hb hs) fun E σ H zz => ?_
 obtain ⟨ι, σd, Hd, fl, σf, Hf, s, hr, e, q⟩ := zz
 obtain ⟨⟨⟨xs, own⟩, H1⟩, e1, e⟩ := Zo e
 refine ⟨ι, σd, Hd, xs, own, H1, s, hr, e1, fun J H0 ι0 l0 h0 it => ?_⟩
 refine ⟨fun i m σ H => m = xs.length - i ∧ i ≤ xs.length ∧ ∃ ι σd Hd, Le X.K H0 ι0 H ι ∧ SRep X.K H ι σ σd ∧ HRep X.K H ι Hd ∧ Zf4 own g b (xs.drop i) σd Hd = some (fl, σf, Hf),
  ⟨xs.length, by simp, Nat.zero_le _, ι0, σd, H1, Le.refl, s.mono l0, h0, by simpa using e⟩, ?_⟩
 rintro i m σ2 H2 ⟨rfl, hi, ι2, σd2, Hd2, l2, s2, h2, e2⟩
 by_cases hlt : i < xs.length
 ·have ed : xs.drop i = xs[i] :: xs.drop (i + 1) := List.drop_eq_getElem_cons hlt
  rw [ed, Zf4] at e2
  split at e2
  ·rename_i ok
   obtain ⟨⟨σ3, H3⟩, e3, e2⟩ := Zo e2
   obtain ⟨⟨f4, σ4, H4⟩, e4, e2⟩ := Zo e2
   refine .inr ⟨it.go i H2 ι2 Hd2 l2 h2 ok hlt, fun σ' H' => (xs.length - (i + 1) = xs.length - (i + 1) ∧ i + 1 ≤ xs.length ∧ ∃ ι σd Hd, Le X.K H0 ι0 H' ι ∧ SRep X.K H' ι σ' σd ∧ HRep X.K H' ι Hd ∧ Zf4 own g b (xs.drop (i + 1)) σd Hd = some (fl, σf, Hf)),
    fun σ' H' p => ⟨_, by omega, p⟩, fun x H' y => ?_⟩
   obtain ⟨ι3, l3, h3, r3⟩ := it.yld i H2 ι2 Hd2 xs[i] x H' l2 h2 ok (by simp [hlt]) y
   refine ⟨ι3, σd2, Hd2, xs[i], σ3, H3, s2.mono l3, h3, r3, e3, fun σ5 H5 ι5 l5 h5 s5 => ?_⟩
   refine ⟨ι5, σ3, H3, f4, σ4, H4, s5, h5, e4, fun σ6 H6 ι6 l6 h6 s6 => ?_⟩
   have L : Le X.K H0 ι0 H6 ι6 := ((l2.trans l3).trans l5).trans l6
   cases f4 with
   | nx => exact ⟨rfl, hlt, ι6, σ4, H4, L, s6, h6, e2⟩
   | ct => exact ⟨rfl, hlt, ι6, σ4, H4, L, s6, h6, e2⟩
   | bk => cases e2; exact q σ6 H6 ι6 (l0.trans L) h6 s6
   | rt d => cases e2; exact q σ6 H6 ι6 (l0.trans L) h6 s6
  ·cases e2
 ·have hi' : i = xs.length := by omega
  rw [List.drop_eq_nil_of_le (by omega), Zf4] at e2
  split at e2
  ·rename_i ok
   have e3 : (FD.nx, σd2, Hd2) = (fl, σf, Hf) := Option.some.inj e2
   obtain ⟨rfl, e4⟩ := Prod.mk.inj e3
   obtain ⟨rfl, rfl⟩ := Prod.mk.inj e4
   exact .inl ⟨it.stop i H2 ι2 _ l2 h2 ok (by omega), q σ2 H2 ι2 (l0.trans l2) h2 s2⟩
  ·cases e2
end
noncomputable def Za5 (n N : Nat) (b : SF) : FF := fun ds H => if ds.length = n then (b (ds.map some ++ List.replicate (N - ds.length) none) H).bind fun r => match r.1 with
  | .rt d => some (d, r.2.2)
  | .nx => some (.non, r.2.2)
  | _ => none
 else none
section
variable {P : Program} {w : World} {K : PySem.W.Frag} {mg : Str -> Option Value} {base : Heap}
theorem fn_f {x qual : Str} {st : Stmt} {f : Addr} {fd : FuncData} {N ps : List Str} {k : Nat} {b : SF} (F : Fun K x qual st f fd) (S : FnScope N ps (Zad st))
  (hb : ∀ (cdv : Value) (A : Around) (outer : List Env) (s : Shared) (H : Hp) (E : XK), Room k (A.deeper (envOfC qual (Zad st) s.heap.objs.size f cdv)) →
   Zna (Zey CX0 P w K mg base N qual (Zad st) f cdv A outer s H E).nox (Zbc st) b) : FnOk P w K mg base CX0 (k + 1) f fd ps (spF K ps.length (Za5 ps.length N.length b)) := by
 refine F.ok S (fun vs H Q E h => ?_) (fun cdv A outer s H vs Q E hr h => ?_)
 ·obtain ⟨ι, ds, Hd, d, Hd', hl, _, r, _⟩ := h
  rw [← Prd.len r]; exact hl
 ·obtain ⟨ι, ds, Hd, d, Hd', hl, hh, r, e, q⟩ := h
  refine ⟨_, hb cdv A outer s H E hr, ?_⟩
  unfold Za5 at e
  rw [if_pos hl] at e
  obtain ⟨⟨fl, σ1, H1⟩, e1, e⟩ := Zo e
  refine ⟨ι, _, Hd, fl, σ1, H1, ?_, hh, e1, fun σ' H' ι' l h ss => ?_⟩
  ·refine ⟨by simp [L2.start, Prd.len r], fun i d0 h0 => ?_⟩
   unfold L2.start
   by_cases hi : i < ds.length
   ·rw [List.getElem?_append_left (by simpa using hi), List.getElem?_map] at h0
    cases ed : ds[i]? with
    | none => rw [ed] at h0; cases h0
    | some d1 =>
     rw [ed] at h0
     cases h0
     obtain ⟨v, hv, rv⟩ := Prd.get r ed
     refine ⟨v, ?_, rv⟩
     rw [List.getElem?_append_left (by rw [List.length_map, ← Prd.len r]; exact hi), List.getElem?_map, hv]
     rfl
   ·rw [List.getElem?_append_right (by simpa using hi), List.getElem?_replicate] at h0
    split at h0 <;> cases h0
  ·cases fl with
   | rt d1 => cases e; exact fun v rv => q v H' ι' l h rv
   | nx => cases e; exact q .non H' ι' l h (by simp)
   | bk => cases e
   | ct => cases e
end
noncomputable def Zgw (env : Env) : List (Str × NameKind) -> List (Str × Addr) -> List (Str × Addr)
 | [], cs => cs
 | (n, k) :: r, cs => Zgw env r (if k = .free then (match env.cells.lookup n with | some a => (n, a) :: cs | none => cs) else cs)
theorem Zge (env : Env) (scope : Scope) (h : ∀ y ∈ scope.names, y.2 = .free -> (env.cells.lookup y.1).isSome = true) : closureFor scope env = pure (Zgw env scope.names []) := by
 have key : ∀ (ns : List (Str × NameKind)) (cs : List (Str × Addr)), (∀ y ∈ ns, y.2 = .free -> (env.cells.lookup y.1).isSome = true) →
   (forIn ns cs fun (x : Str × NameKind) cs => match x with
    | (name, kind) => if (kind == .free) = true then (do let a ← cellOf env name; pure (ForInStep.yield ((name, a) :: cs))) else pure (ForInStep.yield cs) : Sem (List (Str × Addr))) = pure (Zgw env ns cs) := by
  intro ns
  induction ns with
  | nil => intro cs _; rfl
  | cons x r ih =>
   intro cs hh
   obtain ⟨n, k⟩ := x
   have hr := ih
   rw [List.forIn_cons]
   by_cases hk : k = .free
   ·subst hk
    have q := hh (n, .free) (by simp) rfl
    cases e : env.cells.lookup n with
    | none => rw [e] at q; cases q
    | some a =>
     have e2 : cellOf env n = pure a := by unfold cellOf; rw [e]
     simp only [beq_self_eq_true, if_true, e2, pure_bind, Zgw, e]
     exact ih _ fun y hy => hh y (List.mem_cons_of_mem _ hy)
   ·have hb : (k == NameKind.free) = false := by simpa using hk
    simp only [hb, Bool.false_eq_true, if_false, pure_bind, Zgw, hk]
    exact ih _ fun y hy => hh y (List.mem_cons_of_mem _ hy)
 have e : closureFor scope env = ((forIn scope.names [] fun (x : Str × NameKind) cs => match x with
    | (name, kind) => if (kind == .free) = true then (do let a ← cellOf env name; pure (ForInStep.yield ((name, a) :: cs))) else pure (ForInStep.yield cs) : Sem (List (Str × Addr))) >>= pure) := rfl
 rw [e, bind_pure]
 exact key scope.names [] h
theorem Zf1 (env : Env) : ∀ (ns : List (Str × NameKind)) (cs : List (Str × Addr)), (∀ x c, cs.lookup x = some c -> env.cells.lookup x = some c) -> ∀ x c, (Zgw env ns cs).lookup x = some c -> env.cells.lookup x = some c
 | [], cs, h => h
 | (n, k) :: r, cs, h => by
  unfold Zgw
  refine Zf1 env r _ ?_
  split
  ·cases e : env.cells.lookup n with
   | none => exact h
   | some a =>
    intro x c q
    dsimp only at q
    rw [List.lookup_cons] at q
    split at q
    ·rename_i hb
     have hb' : x = n := by simpa using hb
     subst hb'; cases q; exact e
    ·exact h x c q
  ·exact h
theorem Zi6 (env : Env) : ∀ (ns : List (Str × NameKind)) (cs : List (Str × Addr)) (x : Str), ((cs.lookup x).isSome = true ∨ ((x, NameKind.free) ∈ ns ∧ (env.cells.lookup x).isSome = true)) -> ((Zgw env ns cs).lookup x).isSome = true
 | [], cs, x, h => by
  rcases h with h | ⟨h, _⟩
  ·exact h
  ·simp at h
 | (n, k) :: r, cs, x, h => by
  unfold Zgw
  refine Zi6 env r _ x ?_
  by_cases hk : k = .free
  ·rw [if_pos hk]
   cases e : env.cells.lookup n with
   | none =>
    rcases h with h | ⟨h, h2⟩
    ·exact .inl h
    ·rcases List.mem_cons.mp h with h | h
     ·cases h; rw [e] at h2; cases h2
     ·exact .inr ⟨h, h2⟩
   | some a =>
    dsimp only
    rw [List.lookup_cons]
    by_cases hx : x = n
    ·subst hx; simp
    ·have : (x == n) = false := by simpa using hx
     rw [this]
     rcases h with h | ⟨h, h2⟩
     ·exact .inl h
     ·rcases List.mem_cons.mp h with h | h
      ·cases h; exact absurd rfl hx
      ·exact .inr ⟨h, h2⟩
  ·rw [if_neg hk]
   rcases h with h | ⟨h, h2⟩
   ·exact .inl h
   ·rcases List.mem_cons.mp h with h | h
    ·cases h; exact absurd rfl hk
    ·exact .inr ⟨h, h2⟩
theorem Ze4 {env : Env} : ∀ {names : List (Str × NameKind)} {x : Str}, names.lookup x = some .free →
  ((names.map fun (n, k) => if (k == NameKind.free && env.scope.kind == .function && env.kindOf n == some .cell) then (n, NameKind.cell) else (n, k)).lookup x = some .cell ∨
   (names.map fun (n, k) => if (k == NameKind.free && env.scope.kind == .function && env.kindOf n == some .cell) then (n, NameKind.cell) else (n, k)).lookup x = some .free)
 | [], _, h => by simp at h
 | (n, k) :: r, x, h => by
  have ih := @Ze4 env r x
  show List.lookup x ((if (k == NameKind.free && env.scope.kind == .function && env.kindOf n == some .cell) = true then (n, NameKind.cell) else (n, k)) :: _) = _ ∨ List.lookup x ((if (k == NameKind.free && env.scope.kind == .function && env.kindOf n == some .cell) = true then (n, NameKind.cell) else (n, k)) :: _) = _
  cases hx : x == n with
  | true =>
   simp only [List.lookup_cons, hx] at h
   cases h
   by_cases hc : (NameKind.free == NameKind.free && env.scope.kind == .function && env.kindOf n == some .cell) = true
   ·rw [if_pos hc]; simp only [List.lookup_cons, hx]; simp
   ·rw [if_neg hc]; simp only [List.lookup_cons, hx]; simp
  | false =>
   simp only [List.lookup_cons, hx] at h
   by_cases hc : (k == NameKind.free && env.scope.kind == .function && env.kindOf n == some .cell) = true
   ·rw [if_pos hc]; simp only [List.lookup_cons, hx]; exact ih h
   ·rw [if_neg hc]; simp only [List.lookup_cons, hx]; exact ih h
theorem Zeo {env : Env} : ∀ {names : List (Str × NameKind)} {x : Str}, (∀ y ∈ names, y.2 ≠ .cell) →
  ((names.map fun (n, k) => if (k == NameKind.free && env.scope.kind == .function && env.kindOf n == some .cell) then (n, NameKind.cell) else (n, k)).lookup x = some .cell ∨
   (names.map fun (n, k) => if (k == NameKind.free && env.scope.kind == .function && env.kindOf n == some .cell) then (n, NameKind.cell) else (n, k)).lookup x = some .free) -> (x, NameKind.free) ∈ names
 | [], _, _, h => by simp at h
 | (n, k) :: r, x, hn, h => by
  have ih := @Zeo env r x (fun y hy => hn y (List.mem_cons_of_mem _ hy))
  have h : List.lookup x ((if (k == NameKind.free && env.scope.kind == .function && env.kindOf n == some .cell) = true then (n, NameKind.cell) else (n, k)) :: _) = _ ∨ List.lookup x ((if (k == NameKind.free && env.scope.kind == .function && env.kindOf n == some .cell) = true then (n, NameKind.cell) else (n, k)) :: _) = _ := h
  cases hx : x == n with
  | true =>
   have hx' : x = n := by simpa using hx
   subst hx'
   by_cases hc : (k == NameKind.free && env.scope.kind == .function && env.kindOf x == some .cell) = true
   ·have hk : k = .free := by
     rw [Bool.and_eq_true, Bool.and_eq_true] at hc
     simpa using hc.1.1
    subst hk; simp
   ·rw [if_neg hc] at h
    simp only [List.lookup_cons, hx] at h
    rcases h with h | h
    ·cases h; exact absurd rfl (hn (x, .cell) (by simp))
    ·cases h; simp
  | false =>
   refine List.mem_cons_of_mem _ (ih ?_)
   by_cases hc : (k == NameKind.free && env.scope.kind == .function && env.kindOf n == some .cell) = true
   ·rw [if_pos hc] at h; simp only [List.lookup_cons, hx] at h; exact h
   ·rw [if_neg hc] at h; simp only [List.lookup_cons, hx] at h; exact h
noncomputable def blk (X : Cx) (scope : Scope) (N : List Str) (cl : List (Str × Addr)) (C : Addr) (s : Shared) (H : Hp) (fp : List Addr) (pn : List (Addr × Obj)) : Cx where
 prog := X.prog
 w := X.w
 K := X.K
 mg := X.mg
 base := X.base
 A := X.A
 N := N
 s₀ := s
 H₀ := H
 env := compEnvC scope cl C X.env
 outer := X.stack
 stack := X.stack
 ex := fp
 fn := fun _ => false
 calm := X.calm
 pn := pn
 xe := fun _ _ => False
structure BlkOk (X : Cx) (scope : Scope) (x : Str) (cn : List Str) (ci : List Nat) : Prop where
 kind : scope.kind = .function
 nocell : ∀ y ∈ scope.names, y.2 ≠ .cell
 names : ∀ y ∈ scope.names, y.2 = .local -> scope.names.lookup y.1 = some .local
 tgt : scope.names.lookup x = some .local
 free : ∀ y ∈ scope.names, y.2 = .free -> (X.env.cells.lookup y.1).isSome = true
 nd : (x :: cn).Nodup
 len : ci.length = cn.length
 cap : ∀ (j : Nat) (y : Str), cn[j]? = some y -> ∃ i, ci[j]? = some i ∧ X.N[i]? = some y ∧ scope.names.lookup y = some .free ∧ (X.env.kindOf y = some .cell ∨ X.env.kindOf y = some .free)
noncomputable def Zif (ci : List Nat) (σ : L2.St) : L2.St := ci.map fun i => (σ[i]?).join
section
variable {X : Cx} {pins : List (Addr × Obj)} {σ : L2.St} {H : Hp} {s : Shared} {scope : Scope} {x : Str} {cn : List Str} {ci : List Nat} {fp : List Addr}
theorem Zvi {h₁ : Heap} {tk : Nat} {o₁ : Obj} (I : Inv X pins σ H s) (B : BlkOk X scope x cn ci) (hf : ∀ b ∈ fp, Zl3 X pins H b) (hlt : ∀ b ∈ fp, b < s.heap.objs.size)
  (hns : h₁.Ns s.heap.objs.size (fun _ => none)) (hsb : Heap.SameBut s.heap.objs.size (s.heap.push o₁) h₁) :
  Inv (blk X scope (x :: cn) (Zgw X.env scope.names []) s.heap.objs.size s H fp (X.pn ++ pins)) [] (none :: Zif ci σ) H { s with heap := h₁, toks := tk } := by
 have old : ∀ b o, s.heap.get? b = some o -> h₁.get? b = some o := fun b o e => hsb.extBut b o (Nat.ne_of_lt (Heap.lt_size e)) (Heap.get?_push_of_some _ e)
 have sub := Zf1 X.env scope.names [] (by intro x c h; simp at h)
 have has : ∀ y, (y, NameKind.free) ∈ scope.names -> ∃ c, (Zgw X.env scope.names []).lookup y = some c := fun y hy =>
  Option.isSome_iff_exists.mp (Zi6 X.env scope.names [] y (.inr ⟨hy, B.free _ hy rfl⟩))
 refine ⟨⟨I.ok.mod, B.kind, I.ok.glob, I.ok.blt, Nat.le_refl _, fun y z c h1 h2 => I.ok.inj y z c (sub y c h1) (sub z c h2), fun y hy => has y (Zeo B.nocell hy), fun y c hy => absurd hy (by show ¬ (false = true); simp), I.ok.hd, I.ok.frames, .inl rfl,
   fun b hb => ⟨Nat.ne_of_lt (hlt b hb), fun y c e => (hf b hb).2.2.2.2.1 y c (sub y c e)⟩, I.bs, Nat.le_trans I.ok.bsz I.sz, fun b o e hb => ?_, fun b hb z => ?_, I.stack, I.stkFree⟩,
  rfl, I.bare, Un.kept old, ⟨_, hns, fun i y v h1 h2 h3 => ?_⟩, fun y c e => ?_, I.hok.fresh (Nat.le_refl _), fun y c e => I.freeC y c (sub y c e), fun p hp => ?_, I.hok.kept old, ?_⟩
 ·rcases (hf b hb).2.2.2.1 with z | z
  ·exact I.ok.noex b o e z
  ·exact absurd (Nat.lt_of_lt_of_le (Heap.lt_size e) (Nat.le_trans I.ok.bsz z)) (Nat.lt_irrefl _)
 ·exact (List.mem_cons.mp (I.stkSub b z)).elim (hf b hb).2.1 (hf b hb).2.2.1
 ·cases i with
  | zero => simp at h2
  | succ j =>
   have h1' : cn[j]? = some y := by simpa [blk] using h1
   have h2' : (Zif ci σ)[j]? = some (some v) := by simpa using h2
   obtain ⟨i, e1, e2, e3, e4⟩ := B.cap j y h1'
   have e5 : σ[i]? = some (some v) := by
    unfold Zif at h2'
    rw [List.getElem?_map, e1] at h2'
    simp at h2'
    cases e : σ[i]? with
    | none => rw [e] at h2'; cases h2'
    | some o => rw [e] at h2'; simp at h2'; rw [h2']
   obtain ⟨m, hn, hl⟩ := I.loc
   have hv : Vis X.env.scope y := by
    rcases e4 with e4 | e4
    ·exact .inr (.inl e4)
    ·exact .inr (.inr e4)
   obtain ⟨u, r, l⟩ := hl i y v e2 e5 hv
   refine ⟨u, r, .inr ⟨Ze4 e3, ?_⟩⟩
   obtain ⟨c, ec⟩ := has y (PySem.mem_of_lookup e3)
   refine ⟨c, ec, ?_⟩
   rcases l with ⟨l, _⟩ | ⟨_, c', ec', hc⟩
   ·rcases e4 with e4 | e4 <;> rw [e4] at l <;> cases l
   ·rw [sub y c ec] at ec'
    cases ec'
    obtain ⟨ob, q1, q2⟩ := hc
    exact ⟨ob, old _ _ q1, q2⟩
 ·obtain ⟨v, ob, q1, q2⟩ := I.cell y c (sub y c e)
  exact ⟨v, ob, old _ _ q1, q2⟩
 ·have hp' : p ∈ X.pn ++ pins := by simpa [blk] using hp
  obtain ⟨q1, q2, q3, q4, q5⟩ := I.pin p hp'
  refine ⟨old _ _ q1, q2, Nat.ne_of_lt (Heap.lt_size q1), fun z => ?_, q5⟩
  exact (List.mem_cons.mp (I.stkSub p.1 z)).elim q3 q4
 ·simp [blk, Zif, B.len]
noncomputable def PTs (X : Cx) (ifs : List Expr) (t : TT) : Prop :=
 ∀ (pins : List (Addr × Obj)) (s : Shared) (σ : L2.St) (H : Hp) (Q : Bool -> Hp -> Prop), Inv X pins σ H s -> t σ H Q →
  wpAny (model X.prog X.w) X.A (forIn ifs true fun c r => if r = true then do let ok ← isTrue c X.env (eval c X.env); pure (ForInStep.yield ok) else pure (ForInStep.yield r)) (TP X pins σ Q) X.xe s
theorem Zw8 : PTs X [] (fun _ H Q => Q true H) := fun _ _ _ H _ I h => wpAny_tests_nil ⟨H, I, h⟩
theorem Zwa {c : Expr} {t : TT} (h : PT X c t) : PTs X [c] t := fun pins s σ H Q I q => wpAny_tests_one (h pins s σ H Q I q)
noncomputable def LcW (J : It) (ci : List Nat) (tt : TT) (te : TE) (σ : L2.St) (Q : VK) (H1 : Hp) : Prop := ∀ p, H1 p = none -> ∃ W : Nat -> Nat -> List V -> Hp -> Prop, (∃ m, W 0 m [] (upd H1 p (.lst []))) ∧ ∀ i m ys H, W i m ys H →
 H p = some (.lst ys) ∧ ((J.stop i H ∧ Q (.ref p) H) ∨ (J.go i H ∧ ∀ v H', J.yld i H v H' -> tt (some v :: Zif ci σ) H' fun b H2 =>
  if b = true then te (some v :: Zif ci σ) H2 fun y H3 => H3 p = some (.lst ys) ∧ ys.length < sizeLine ∧ ∃ m', m' < m ∧ W (i + 1) m' (ys ++ [y]) (upd H3 p (.lst (ys ++ [y])))
  else ∃ m', m' < m ∧ W (i + 1) m' ys H2))
structure Gone (X : Cx) (pins : List (Addr × Obj)) (H : Hp) (s : Shared) (C : Addr) : Prop where
 ns : ∃ m, s.heap.Ns C m
 free : H C = none
 nl : C ≠ X.env.locals
 up : X.s₀.heap.objs.size ≤ C
 nc : ∀ x c, X.env.cells.lookup x = some c -> c ≠ C
 np : ∀ p ∈ X.pn ++ pins, p.1 ≠ C
theorem Gone.go {σ : L2.St} {h' : Heap} {C : Addr} (g : Gone X pins H s C) (I : Inv X pins σ H s) (hs : Heap.SameBut C s.heap h') : Inv X pins σ H { s with heap := h' } :=
 I.turned (t' := s.toks) (fun b o hb e => hs.extBut b o hb e) g.free g.nl (.inr g.up) g.nc g.np
theorem Znc {elt iter : Expr} {px pos : Pos} {ifs : List Expr} {tt : TT} {te : TE} {Q : VK} {E : Value -> Shared -> Prop} {RR : Value -> Addr -> Result -> Shared -> Prop} {it : Addr} {tn : Nat -> Heap -> Prop} {J : It}
  (I : Inv X pins σ H s) (hc : X.calm = true) (B : BlkOk X scope x cn ci) (T : Turn X.prog X.w X.K (.Name x px) J fp it tn) (st : tn 0 s.heap) (hf : ∀ b ∈ fp, Zl3 X pins H b)
  (ht : ∀ cl C s H fp pn, PTs (blk X scope (x :: cn) cl C s H fp pn) ifs tt) (he : ∀ cl C s H fp pn, PE (blk X scope (x :: cn) cl C s H fp pn) elt te)
  (hw : LcW J ci tt te σ Q H) (hRR : ∀ p C H' s', Inv X pins σ H' s' -> Gone X pins H' s' C -> Q (.ref p) H' -> RR (.ref p) C (.ok .next) s') :
  wpAny (model X.prog X.w) X.A (newList []) (fun acc s₃ => wpAny (model X.prog X.w) X.A (newFunctionEnv scope X.env.globals (Zgw X.env scope.names []) [] X.env.qual none .none (some X.env)) (fun cenv s₄ =>
   codeAny (model X.prog X.w) X.A (.compStart (.ListComp elt [⟨.Name x px, iter, ifs, 0⟩] scope pos) 0 (.ref it) acc { cenv with scope := relabel scope X.env }) (RR acc cenv.locals) s₄) E s₃) E s := by
 have hp0 : H s.heap.objs.size = none := I.hok.fresh (Nat.le_refl _)
 obtain ⟨W, ⟨m0, w0⟩, turn⟩ := hw _ hp0
 refine wpAny_newObj_type (wpAny_newFunctionEnv B.nocell (by intro y hy; simp at hy) (fun h₁ hns₁ hsb₁ => ?_) B.kind)
 dsimp only at hns₁ hsb₁ ⊢
 have I3 : Inv X pins σ (upd H s.heap.objs.size (.lst [])) { s with heap := s.heap.push { cls := .type "list", dict := none, data := .seq ([] : List Value).toArray } } :=
  I.laid (t' := s.toks) (fun b u e => Heap.get?_push_of_some _ e) (Nat.le_refl _) ⟨Nat.zero_le _, [], 0, .nil, Heap.get?_push_size _ rfl⟩
 generalize hH3 : s.heap.push { cls := .type "list", dict := none, data := .seq ([] : List Value).toArray } = hp3 at hns₁ hsb₁ I3 ⊢
 have flt : ∀ b ∈ fp, b < s.heap.objs.size := fun b hb => by
  obtain ⟨o, e, _⟩ := T.obj 0 _ st b hb
  exact Heap.lt_size e
 have sz3 : hp3.objs.size = s.heap.objs.size + 1 := by rw [← hH3, Heap.size_push]
 have f3 : ∀ b ∈ fp, Zl3 X pins (upd H s.heap.objs.size (.lst [])) b := fun b hb => ⟨by rw [Zak (Nat.ne_of_lt (flt b hb))]; exact (hf b hb).1, (hf b hb).2⟩
 have old3 : ∀ b o, s.heap.get? b = some o -> hp3.get? b = some o := fun b o e => by rw [← hH3]; exact Heap.get?_push_of_some _ e
 have I4 := Zvi (s := { s with heap := hp3 }) (tk := s.toks + ([] : List (Str × Value)).length) I3 B f3 (fun b hb => by show b < hp3.objs.size; rw [sz3]; exact Nat.lt_succ_of_lt (flt b hb)) (by simpa using hns₁) hsb₁
 have old4 : ∀ b o, hp3.get? b = some o -> h₁.get? b = some o := fun b o e => hsb₁.extBut b o (Nat.ne_of_lt (Heap.lt_size e)) (Heap.get?_push_of_some _ e)
 generalize hX' : blk X scope (x :: cn) (Zgw X.env scope.names []) hp3.objs.size { s with heap := hp3 } (upd H s.heap.objs.size (.lst [])) fp (X.pn ++ pins) = X' at I4
 have ePr : X'.prog = X.prog := by rw [← hX']; rfl
 have eW : X'.w = X.w := by rw [← hX']; rfl
 have eK : X'.K = X.K := by rw [← hX']; rfl
 have eA : X'.A = X.A := by rw [← hX']; rfl
 have eEnv : X'.env = compEnvC scope (Zgw X.env scope.names []) hp3.objs.size X.env := by rw [← hX']; rfl
 have eEx : X'.ex = fp := by rw [← hX']; rfl
 have ht' : PTs X' ifs tt := by rw [← hX']; exact ht _ _ _ _ _ _
 have he' : PE X' elt te := by rw [← hX']; exact he _ _ _ _ _ _
 have eXe : X'.xe = fun _ _ => False := by rw [← hX']; rfl
 have hg' : PG X' (.Name x px) (Zka 0) := by
  rw [← hX']
  exact Zkd (X := blk X scope (x :: cn) _ _ _ _ _ _) B.nd rfl (.inl (lookup_relabel_local B.tgt)) (.inr (lookup_relabel_local B.tgt))
 -- the iterator's objects, seen from the block
 have stat : ∀ {H' : Hp}, (∀ b ∈ fp, H' b = none) -> ∀ b ∈ fp, Zl3 X' [] H' b := fun {H'} hn b hb => by
  rw [← hX']
  refine ⟨hn b hb, (by show b ≠ hp3.objs.size; rw [sz3]; exact Nat.ne_of_lt (Nat.lt_succ_of_lt (flt b hb))), fun z => (List.mem_cons.mp (I3.stkSub b z)).elim (hf b hb).2.1 (hf b hb).2.2.1, .inl hb, fun y c e => ?_, fun p hp => ?_⟩
  ·exact (hf b hb).2.2.2.2.1 y c (Zf1 X.env scope.names [] (by intro x c h; simp at h) y c e)
  ·exact (hf b hb).2.2.2.2.2 p (by simpa [blk] using hp)
 have back : ∀ {σ' : L2.St} {H' : Hp} {s' : Shared}, Inv X' [] σ' H' s' -> Inv X pins σ H' s' ∧ Gone X pins H' s' hp3.objs.size := fun {σ' H' s'} I5 => by
  have u : Un (frs X.stack) fp (upd H s.heap.objs.size (.lst [])) H' hp3 s'.heap := by
   have := I5.base
   rw [← hX'] at this
   exact this
  have hok : HOk X.prog X.w H' s'.heap := by have := I5.hok; rw [ePr, eW] at this; exact this
  have ho : s'.os = s.os := by have := I5.os; rw [← hX'] at this; exact this
  refine ⟨I3.call' ho u hok I5.bare fun b hb => ⟨(hf b hb).2.2.2.1, (hf b hb).2.1, (hf b hb).2.2.2.2.1, (hf b hb).2.2.2.2.2⟩, ?_, ?_, ?_, ?_, fun y c e z => ?_, fun p hp z => ?_⟩
  ·obtain ⟨m, hn, _⟩ := I5.loc
   rw [eEnv] at hn
   exact ⟨m, hn⟩
  ·have := I5.free
   rw [eEnv] at this
   exact this
  ·exact Nat.ne_of_gt (I3.lt)
  ·exact I3.sz
  ·obtain ⟨v, q⟩ := I3.cell y c e
   exact absurd (Nat.lt_of_lt_of_le q.lt (by rw [z]; exact Nat.le_refl _)) (Nat.lt_irrefl _)
  ·have := Heap.lt_size (I3.pin p hp).1
   rw [z] at this
   exact Nat.lt_irrefl _ this
 have loop : codeAny (model X.prog X.w) X.A (.compLoop (.ListComp elt [⟨.Name x px, iter, ifs, 0⟩] scope pos) 0 (.ref it) (.ref s.heap.objs.size) (compEnvC scope (Zgw X.env scope.names []) hp3.objs.size X.env))
   (RR (.ref s.heap.objs.size) hp3.objs.size) { s with heap := h₁, toks := s.toks + ([] : List (Str × Value)).length } := by
  refine codeAny_loop rfl (fun n s' => ∃ i o ys H', Inv X' [] (o :: Zif ci σ) H' s' ∧ tn i s'.heap ∧ (∀ b ∈ fp, H' b = none) ∧ W i n ys H') (fun n s' hI => ?_) m0
   ⟨0, none, [], _, I4, T.keep _ _ _ st (fun b hb o e => old4 b o (old3 b o e)), fun b hb => (f3 b hb).1, w0⟩
  obtain ⟨i, o, ys, H', I5, st5, fr5, w5⟩ := hI
  show wpAny _ X.A ((compTurn (.ListComp elt [⟨.Name x px, iter, ifs, 0⟩] scope pos) 0 (.ref it) (.ref s.heap.objs.size) (compEnvC scope (Zgw X.env scope.names []) hp3.objs.size X.env)).onRaise (fun x => do noteFrame x (compEnvC scope (Zgw X.env scope.names []) hp3.objs.size X.env); theTreesLotGoes x)) _ _ s'
  refine wpAny_noted ?_
  rw [compTurn_list, ← eEnv, ← ePr, ← eW, ← eA]
  refine wpAny_mono (E := fun _ _ => False) ?_ (fun _ _ q => q) (fun _ _ z => z.elim)
  obtain ⟨hpl, wt⟩ := turn i n ys H' w5
  refine wpAny_bind (wpAny_standAt (wpAny_bind ?_))
  rcases wt with ⟨stop, q⟩ | ⟨go, step⟩
  ·have z := T.done X' ePr eW eK (by rw [← hX']; exact hc) i [] s' _ H' (fun _ _ => False) I5 (stat fr5) st5 stop
   rw [← ePr, ← eW] at z
   refine thn z fun r s6 zz => ?_
   obtain ⟨hr, I6⟩ := zz
   subst hr
   obtain ⟨J1, g1⟩ := back I6
   exact wpAny_pure (hRR _ _ H' s6 J1 g1 q)
  ·have z := T.item X' ePr eW eK (by rw [← hX']; exact hc) i [] s' _ H' (fun _ _ => False) I5 (stat fr5) st5 go
   rw [← ePr, ← eW] at z
   refine thn z fun r s6 zz => ?_
   obtain ⟨u, hr, h6⟩ := zz
   subst hr
   refine wpAny_bind (thn h6 fun _ s7 zz => ?_)
   obtain ⟨v, H7, I7, r7, y7, st7, fr7⟩ := zz
   have I7' := I7.pinned (stat fr7) (T.obj _ _ st7)
   rw [← eXe]
   refine wpAny_bind (thn (hg' _ s7 _ H7 v u _ I7' r7 (show Zka 0 v (o :: Zif ci σ) H7 (fun σ8 H8 => σ8 = some v :: Zif ci σ ∧ H8 = H7) from ⟨rfl, rfl⟩)) fun _ s8 zz => ?_)
   obtain ⟨σ8, H8, I8, e8, e8'⟩ := zz
   subst e8 e8'
   refine wpAny_bind (thn (ht' _ s8 _ _ _ I8 (step v _ y7)) fun b s9 zz => ?_)
   obtain ⟨H9, I9, q9⟩ := zz
   have tnK : ∀ {σ' : L2.St} {H' : Hp} {s' : Shared}, Inv X' (([] : List (Addr × Obj)) ++ Ziu fp s7.heap) σ' H' s' -> tn (i + 1) s'.heap ∧ ∀ b ∈ fp, H' b = none := fun {σ' H' s'} I' =>
    ⟨T.keep _ _ _ st7 fun b hb o e => (I'.pin (b, o) (List.mem_append_right _ (List.mem_append_right _ (Zcw hb e)))).1, fun b hb => by
     obtain ⟨ob, e, d⟩ := T.obj _ _ st7 b hb
     exact (I'.pin (b, ob) (List.mem_append_right _ (List.mem_append_right _ (Zcw hb e)))).2.1⟩
   cases b with
   | false =>
    obtain ⟨m', hm, w9⟩ := q9
    obtain ⟨t9, f9⟩ := tnK I9
    exact wpAny_pure ⟨rfl, m', hm, i + 1, _, ys, H9, I9.unpinned, t9, f9, w9⟩
   | true =>
    refine wpAny_bind (wpAny_bind (thn (he' _ s9 _ _ _ I9 q9) fun yv s10 zz => ?_))
    obtain ⟨y, H10, I10, r10, hp10, hz10, m', hm, w10⟩ := zz
    refine wpAny_bind (thn (Zh9 (X := X') _ s10 _ H10 (.ref s.heap.objs.size) [y] (.ref s.heap.objs.size) [yv] (fun _ H11 => H11 = upd H10 s.heap.objs.size (.lst (ys ++ [y]))) I10 rfl (.cons r10 .nil) ⟨_, ys, y, rfl, rfl, hp10, hz10, rfl⟩) fun _ s11 zz => ?_)
    obtain ⟨_, H11, I11, _, e11⟩ := zz
    subst e11
    obtain ⟨t11, f11⟩ := tnK I11
    exact wpAny_pure (wpAny_pure ⟨rfl, m', hm, i + 1, _, ys ++ [y], _, I11.unpinned, t11, f11, w10⟩)
 exact codeAny_compStart_list loop (T.self _ 0 _ _ _ (T.keep _ _ _ st (fun b hb o e => old4 b o (old3 b o e))) loop)
noncomputable def tLC (wi : TI) (ci : List Nat) (tt : TT) (te : TE) : TE := fun σ H Q => wi σ H fun J H1 => LcW J ci tt te σ Q H1
theorem pe_lc {elt iter : Expr} {px pos : Pos} {ifs : List Expr} {wi : TI} {tt : TT} {te : TE} (hc : X.calm = true) (B : BlkOk X scope x cn ci) (hi : PI X (.Name x px) iter wi)
  (ht : ∀ cl C s H fp pn, PTs (blk X scope (x :: cn) cl C s H fp pn) ifs tt) (he : ∀ cl C s H fp pn, PE (blk X scope (x :: cn) cl C s H fp pn) elt te)
  (hs : ∀ x, foldedSetIterable iter X.env x = pure x := by rintro _; rfl) : PE X (.ListComp elt [⟨.Name x px, iter, ifs, 0⟩] scope pos) (tLC wi ci tt te) := by
 intro pins s σ H Q I h
 rw [eval_ListComp]
 refine wpAny_comprehension_free (use := none) rfl hs (Zge X.env scope B.free) B.kind B.names ?_
 refine thn (hi pins s σ H _ I h) fun v s1 h1 => thn h1 fun itv s2 h2 => ?_
 obtain ⟨it, fp, tn, J, H2, e, I2, T, st2, f2, w2⟩ := h2
 subst e
 refine Znc (RR := fun acc C => compPost (model X.prog X.w) X.A X.xe none (EP X pins σ Q) acc C) I2 hc B T st2 f2 ht he w2 fun p C H' s' I' g q => ?_
 obtain ⟨m, hn⟩ := g.ns
 exact ⟨m, hn, fun h' hs' => ⟨.ref p, H', g.go I' hs', rfl, q⟩⟩
theorem Ztp {elt iter : Expr} {px py pos spos : Pos} {ifs : List Expr} {wi : TI} {tt : TT} {te : TE} {i : Nat} {y : Str} (hc : X.calm = true) (B : BlkOk X scope x cn ci) (hi : PI X (.Name x px) iter wi)
  (ht : ∀ cl C s H fp pn, PTs (blk X scope (x :: cn) cl C s H fp pn) ifs tt) (he : ∀ cl C s H fp pn, PE (blk X scope (x :: cn) cl C s H fp pn) elt te)
  (hN : X.N.Nodup) (hiN : X.N[i]? = some y) (hy : X.env.scope.names.lookup y = some .local)
  (hsw : swapsWith (.ListComp elt [⟨.Name x px, iter, ifs, 0⟩] scope pos) (some (.Name y py)) spos.line X.env = pure true := by rfl)
  (hs : ∀ x, foldedSetIterable iter X.env x = pure x := by rintro _; rfl) : PS X (.Assign [.Name y py] (.ListComp elt [⟨.Name x px, iter, ifs, 0⟩] scope pos) spos) (tAsg (tLC wi ci tt te) (Zka i)) := by
 intro pins s σ H E I h
 rw [exec_Assign_Name_used _ _ _ _ hsw]
 refine wpAny_bind (wpAny_standAt (wpAny_bind ?_))
 show wpAny _ X.A (do let _ ← comprehension (.ListComp elt [⟨.Name x px, iter, ifs, 0⟩] scope pos) scope X.env _ (newList []) false (eval iter X.env) (some (assign (.Name y py) X.env))) _ _ s
 refine wpAny_bind (wpAny_mono (wpAny_comprehension_free (use := some (assign (.Name y py) X.env)) (Q := fun _ s' => SP X pins E .next s') rfl hs (Zge X.env scope B.free) B.kind B.names ?_) (fun _ s' hq => wpAny_pure (wpAny_pure hq)) fun _ _ e => e)
 refine thn (hi pins s σ H _ I h) fun v s1 h1 => thn h1 fun itv s2 h2 => ?_
 obtain ⟨it, fp, tn, J, H2, e, I2, T, st2, f2, w2⟩ := h2
 subst e
 refine Znc (RR := fun acc C => compPost (model X.prog X.w) X.A X.xe (some (assign (.Name y py) X.env)) (fun _ s' => SP X pins E .next s') acc C) I2 hc B T st2 f2 ht he w2 fun p C H' s' I' g q => ?_
 show wpAny _ X.A (assign (.Name y py) X.env (.ref p)) _ _ _
 have hk : X.env.kindOf y = some .local := hy
 refine wpAny_assign_Name (Zkn I' hN hiN (.inl hy) (v := .ref p) (u := .ref p) rfl (fun s'' I'' ch => ?_) (.inr hy))
 obtain ⟨m, hn⟩ := g.ns
 obtain ⟨a, hsb, ha⟩ := ch
 have haC : C ≠ a := by
  rcases ha with ha | ha
  ·rw [ha]; exact g.nl
  ·exact Ne.symm (g.nc y a ha)
 have hn2 : s''.heap.Ns C m := hn.sameBut hsb haC
 exact ⟨m, hn2, fun h' hs' => ⟨_, H', Gone.go ⟨⟨m, hn2⟩, g.free, g.nl, g.up, g.nc, g.np⟩ I'' hs', q⟩⟩
end
noncomputable def Zsb (ci : List Nat) (σd : SD) : SD := ci.map fun i => (σd[i]?).join
open Classical in
noncomputable def Zem (own : Zgy) (c0 : SD) (tt : TF) (te : EF) : List D -> HD -> Option (List D × HD)
 | [], H => if Zcj own H then some ([], H) else none
 | x :: r, H => if Zcj own H then (tt (some x :: c0) H).bind fun t => if t.1 = true then (te (some x :: c0) t.2).bind fun e => (Zem own c0 tt te r e.2).map fun q => (e.1 :: q.1, q.2) else Zem own c0 tt te r t.2 else none
noncomputable def eLC (it : ItF) (ci : List Nat) (tt : TF) (te : EF) : EF := fun σ H => (it σ H).bind fun p => (Zem p.1.2 (Zsb ci σ) tt te p.1.1 p.2).bind fun q => mkL q.1 q.2
noncomputable def Zr9 : TF := fun _ H => some (true, H)
noncomputable def Zy1 (X : Cx) (ifs : List Expr) (t : TF) : Prop := PTs X ifs (rdT X.K t)
section
variable {X : Cx} {scope : Scope} {x : Str} {cn : List Str} {ci : List Nat}
theorem Zt8 : Zy1 X [] Zr9 := by
 rintro pins s σ H Q I ⟨ι, σd, Hd, b, Hd', sr, hr, e, q⟩
 cases e
 exact Zw8 pins s σ H Q I (q H ι Le.refl hr)
theorem Zsg {c : Expr} {t : TF} (h : PTf X c t) : Zy1 X [c] t := Zwa h
theorem SRep.cap {K : PySem.W.Frag} {H : Hp} {ι : List Addr} {σ : L2.St} {σd : SD} {d : D} {v : V} (s : SRep K H ι σ σd) (r : Rep K H ι d v) : SRep K H ι (some v :: Zif ci σ) (some d :: Zsb ci σd) := by
 refine ⟨by simp [Zif, Zsb], fun i e h => ?_⟩
 cases i with
 | zero => simp at h; subst h; exact ⟨v, rfl, r⟩
 | succ j =>
  simp only [List.getElem?_cons_succ, Zif, Zsb, List.getElem?_map] at h ⊢
  cases ej : ci[j]? with
  | none => rw [ej] at h; simp at h
  | some i =>
   rw [ej] at h
   simp only [Option.map_some, Option.some.injEq] at h ⊢
   cases es : σd[i]? with
   | none => rw [es] at h; simp at h
   | some o =>
    rw [es] at h
    simp at h
    subst h
    obtain ⟨u, h1, h2⟩ := s.var i e es
    exact ⟨u, by rw [h1]; rfl, h2⟩
theorem Zzb {K : PySem.W.Frag} {it : ItF} {tt : TF} {te : EF} {σ : L2.St} {H : Hp} {Q : VK} (h : rdE K (eLC it ci tt te) σ H Q) : tLC (rdI K it) ci (rdT K tt) (rdE K te) σ H Q := by
 obtain ⟨ι, σd, Hd, d, Hd', s, hr, e, q⟩ := h
 obtain ⟨⟨⟨xs, own⟩, H1⟩, e1, e⟩ := Zo e
 obtain ⟨⟨ds, H2⟩, e2, e⟩ := Zo e
 obtain ⟨hz, e⟩ := Zjc e
 cases e
 dsimp only at e2 hz
 refine ⟨ι, σd, Hd, xs, own, H1, s, hr, e1, fun J H0 ι0 l0 h0 itr p hp => ?_⟩
 have s0 := s.mono l0
 refine ⟨fun i m ys H => m = xs.length - i ∧ i ≤ xs.length ∧ H p = some (.lst ys) ∧ ∃ ι Hd done rest, Le K H0 ι0 H ι ∧ p ∉ ι ∧ HRep K H ι Hd ∧ Paired (Rep K H ι) done ys ∧ Zem own (Zsb ci σd) tt te (xs.drop i) Hd = some (rest, H2) ∧ ds = done ++ rest,
  ⟨xs.length, by simp, Nat.zero_le _, Zaq, ι0, H1, [], ds, Le.fresh hp _, h0.fresh hp, h0.tup hp _, .nil, by simpa using e2, by simp⟩, ?_⟩
 rintro i m ys H5 ⟨rfl, hi, hpl, ι5, Hd5, done, rest, l5, np5, h5, pd5, e5, eds⟩
 refine ⟨hpl, ?_⟩
 by_cases hlt : i < xs.length
 ·have ed : xs.drop i = xs[i] :: xs.drop (i + 1) := List.drop_eq_getElem_cons hlt
  rw [ed, Zem] at e5
  split at e5
  ·rename_i ok
   obtain ⟨⟨b6, H6⟩, e6, e5⟩ := Zo e5
   refine .inr ⟨itr.go i H5 ι5 Hd5 l5 h5 ok hlt, fun v H' y => ?_⟩
   obtain ⟨ι6, l6, h6, r6⟩ := itr.yld i H5 ι5 Hd5 xs[i] v H' l5 h5 ok (by simp [hlt]) y
   obtain ⟨hp6, np6⟩ := l6.frame p _ hpl np5
   have s6 := SRep.cap (ci := ci) (s0.mono (l5.trans l6)) r6
   refine ⟨ι6, _, Hd5, b6, H6, s6, h6, e6, fun H7 ι7 l7 h7 => ?_⟩
   obtain ⟨hp7, np7⟩ := l7.frame p _ hp6 np6
   have L7 := (l5.trans l6).trans l7
   cases b6 with
   | true =>
    rw [if_pos rfl]
    dsimp only at e5
    rw [if_pos rfl] at e5
    obtain ⟨⟨d8, H8⟩, e8, e5⟩ := Zo e5
    obtain ⟨⟨r9, H9⟩, e9, e5⟩ := Zm e5
    cases e5
    refine ⟨ι7, _, H6, d8, H8, s6.mono l7, h7, e8, fun v8 H8' ι8 l8 h8 rr8 => ?_⟩
    obtain ⟨hp8, np8⟩ := l8.frame p _ hp7 np7
    have ly : ys.length < sizeLine := by
     rw [← Prd.len pd5]
     rw [eds] at hz
     simp at hz
     omega
    have w8 : Lw K H8' ι8 (upd H8' p (.lst (ys ++ [v8]))) ι8 := Lw.side hp8 _
    refine ⟨hp8, ly, xs.length - (i + 1), by omega, rfl, hlt, Zaq, ι8, H8, done ++ [d8], r9, (L7.trans l8).side hp hp8 _, np8, h8.keep w8 (fun a ha => Zak fun z => by subst z; exact np8 ha), ?_, e9, by rw [eds]; simp⟩
    exact Prd.append (Prd.monoW w8 (Prd.mono ((l6.trans l7).trans l8) pd5)) (.cons (Rep.monoW w8 rr8) .nil)
   | false =>
    rw [if_neg (by simp)]
    dsimp only at e5
    rw [if_neg (by simp)] at e5
    exact ⟨xs.length - (i + 1), by omega, rfl, hlt, hp7, ι7, H6, done, rest, L7, np7, h7, Prd.mono (l6.trans l7) pd5, e5, eds⟩
  ·cases e5
 ·rw [List.drop_eq_nil_of_le (by omega), Zem] at e5
  split at e5
  ·rename_i ok
   have e6 : (([] : List D), Hd5) = (rest, H2) := Option.some.inj e5
   obtain ⟨rfl, rfl⟩ := Prod.mk.inj e6
   refine .inl ⟨itr.stop i H5 ι5 _ l5 h5 ok (by omega), ?_⟩
   have w5 : Lw K H5 ι5 H5 (ι5 ++ [p]) := ⟨fun _ _ z => z, fun _ _ z => z, ⟨[p], rfl⟩, fun _ _ _ z => z⟩
   have L := l0.trans l5
   simp at eds
   subst eds
   refine q _ H5 (ι5 ++ [p]) ⟨L.toLw.trans w5, fun a o ha na => ?_⟩ (h5.add np5 ⟨ys, hpl, Prd.monoW w5 pd5⟩) (Zan.mpr ⟨p, rfl, by rw [← h5.len]; simp⟩)
   obtain ⟨q1, q2⟩ := L.frame a o ha na
   refine ⟨q1, ?_⟩
   have : a ≠ p := fun z => by
    subst z
    have := (l0.frame a o ha na).1
    rw [hp] at this; cases this
   simp [q2, this]
  ·cases e5
theorem Zi0 {elt iter : Expr} {px pos : Pos} {ifs : List Expr} {it : ItF} {tt : TF} {te : EF} (hc : X.calm = true) (B : BlkOk X scope x cn ci) (hi : PIf X (.Name x px) iter it)
  (ht : ∀ cl C s H fp pn, Zy1 (blk X scope (x :: cn) cl C s H fp pn) ifs tt) (he : ∀ cl C s H fp pn, PEf (blk X scope (x :: cn) cl C s H fp pn) elt te)
  (hs : ∀ x, foldedSetIterable iter X.env x = pure x := by rintro _; rfl) : PEf X (.ListComp elt [⟨.Name x px, iter, ifs, 0⟩] scope pos) (eLC it ci tt te) :=
 PEi (pe_lc (tt := rdT X.K tt) (te := rdE X.K te) hc B hi ht he hs) fun _ _ _ h => Zzb h
theorem Zdr {elt iter : Expr} {px py pos spos : Pos} {ifs : List Expr} {it : ItF} {tt : TF} {te : EF} {i : Nat} {y : Str} (hc : X.calm = true) (B : BlkOk X scope x cn ci) (hi : PIf X (.Name x px) iter it)
  (ht : ∀ cl C s H fp pn, Zy1 (blk X scope (x :: cn) cl C s H fp pn) ifs tt) (he : ∀ cl C s H fp pn, PEf (blk X scope (x :: cn) cl C s H fp pn) elt te)
  (hN : X.N.Nodup) (hiN : X.N[i]? = some y) (hy : X.env.scope.names.lookup y = some .local)
  (hsw : swapsWith (.ListComp elt [⟨.Name x px, iter, ifs, 0⟩] scope pos) (some (.Name y py)) spos.line X.env = pure true := by rfl)
  (hs : ∀ x, foldedSetIterable iter X.env x = pure x := by rintro _; rfl) : PSf X (.Assign [.Name y py] (.ListComp elt [⟨.Name x px, iter, ifs, 0⟩] scope pos) spos) (Za0 i (eLC it ci tt te)) := by
 refine PSi (Ztp (tt := rdT X.K tt) (te := rdE X.K te) hc B hi ht he hN hiN hy hsw hs) fun E σ H zz => ?_
 obtain ⟨ι, σd, Hd, fl, σd', Hd', s, hr, e, q⟩ := zz
 obtain ⟨⟨x, H1⟩, e1, e⟩ := Zm e
 cases e
 exact Zzb ⟨ι, σd, Hd, x, H1, s, hr, e1, fun v H' ι' l h r => q _ H' ι' l h ((s.mono l).set r i)⟩
end
theorem Zwl : fillsNumberSlot (.type "tuple") "mul" = pure false :=
 PySem.fillsNumberSlot_seq (id := "tuple.__mul__") (r := some (.builtin "tuple.__rmul__")) F.slot_tuple_mul.lookup (by decide +kernel) F.slot_tuple_rmul.lookup (by decide +kernel)
theorem repT : seqRepeat? (.type "tuple") = pure (some (.builtin "tuple.__mul__")) := by
 unfold seqRepeat?
 rw [PySem.seqSlot_of (T := "tuple") (name := "__mul__") (id := "tuple.__mul__") F.slot_tuple_mul.lookup (by decide +kernel), PySem.seqSlot_of (T := "tuple") (name := "__rmul__") (id := "tuple.__rmul__") F.slot_tuple_rmul.lookup (by decide +kernel)]
 rfl
section
variable {dd : Option Addr} {sl : Array (Option Value)}
theorem rmulT (a : Int) (t : Tok) (l : Addr) (items : Array Value) (n : Nat) :
  Meets (Builtin.«int.__rmul__» ⟨[.int a t, .ref l], []⟩) (fun _ R s => s.heap.get? l = some { cls := .type "tuple", dict := dd, data := .seq items n, slots := sl } ∧ R (.ok (.ret Value.notImplemented)) s) :=
 .of_wp fun prog w A R s h => by obtain ⟨hp, g, d, tk, os⟩ := s; obtain ⟨hl, h⟩ := h; wp_walk; exact ⟨_, rfl, h⟩
theorem Zpy (l : Addr) (items : Array Value) (n : Nat) (x : Int) (u : Tok) (h1 : (decide (x < -(2 ^ 63)) || decide (x ≥ 2 ^ 63)) = false) (h2 : (items.isEmpty || x == 1) = true) :
  Meets (Builtin.«tuple.__mul__» ⟨[.ref l, .int x u], []⟩) (fun _ R s => s.heap.get? l = some { cls := .type "tuple", dict := dd, data := .seq items n, slots := sl } ∧ R (.ok (.ret (.ref l))) s) :=
 .of_wp fun prog w A R s h => by
  obtain ⟨hp, g, d, tk, os⟩ := s; obtain ⟨hl, h⟩ := h
  have f1 := AutoSeq1.idx_int
  wp_walk
  simp only [h1, Bool.false_eq_true, if_false]
  wp_walk using wpAny_loadPart' hl
  simp only [h2, if_true]
  wp_walk using wpAny_loadPart' hl
  exact ⟨_, rfl, h⟩
theorem Zry (l : Addr) (items : Array Value) (n : Nat) (x : Int) (u : Tok) (h1 : (decide (x < -(2 ^ 63)) || decide (x ≥ 2 ^ 63)) = false) (h2 : (items.isEmpty || x == 1) = false) (h3 : (decide (x ≤ 0) || items.isEmpty) = true) :
  Meets (Builtin.«tuple.__mul__» ⟨[.ref l, .int x u], []⟩) (fun _ R s => s.heap.get? l = some { cls := .type "tuple", dict := dd, data := .seq items n, slots := sl } ∧ R (.ok (.ret (.ref s.heap.objs.size))) { s with heap := s.heap.push { cls := Value.type "tuple", data := Data.seq #[] } }) :=
 .of_wp fun prog w A R s h => by
  obtain ⟨hp, g, d, tk, os⟩ := s; obtain ⟨hl, h⟩ := h
  have f1 := AutoSeq1.idx_int
  wp_walk
  simp only [h1, Bool.false_eq_true, if_false]
  wp_walk using wpAny_loadPart' hl
  try simp only [h2, h3, Bool.false_eq_true, if_false, if_true]
  try (wp_walk using wpAny_loadPart' hl)
  exact ⟨_, rfl, h⟩
theorem Ztw (l : Addr) (items : Array Value) (n : Nat) (x : Int) (u : Tok) (h1 : (decide (x < -(2 ^ 63)) || decide (x ≥ 2 ^ 63)) = false) (h2 : (items.isEmpty || x == 1) = false) (h3 : (decide (x ≤ 0) || items.isEmpty) = false) (h4 : ¬ (items.size * x : Int) > (2 ^ 63 - 1) / 8) (h5 : Builtin.Tuple.tupleTooMany (items.size * x) = false)
  (hs : (List.foldl (fun x1 x2 => x1 ++ x2) #[] (List.replicate x.toNat items)).size ≤ sizeLine) :
  Meets (Builtin.«tuple.__mul__» ⟨[.ref l, .int x u], []⟩) (fun _ R s => s.heap.get? l = some { cls := .type "tuple", dict := dd, data := .seq items n, slots := sl } ∧ R (.ok (.ret (.ref s.heap.objs.size))) { s with heap := s.heap.push { cls := Value.type "tuple", data := Data.seq (List.foldl (fun x1 x2 => x1 ++ x2) #[] (List.replicate x.toNat items)) } }) :=
 .of_wp fun prog w A R s h => by
  obtain ⟨hp, g, d, tk, os⟩ := s; obtain ⟨hl, h⟩ := h
  have f1 := AutoSeq1.idx_int
  wp_walk
  simp only [h1, Bool.false_eq_true, if_false]
  wp_walk using wpAny_loadPart' hl
  simp only [h2, h3, h5, Bool.false_eq_true, if_false, if_neg h4]
  wp_walk using wpAny_loadPart' hl
  exact ⟨_, rfl, h⟩
end
theorem Zi2 (its : List Value) (m : Nat) : List.foldl (fun x1 x2 => x1 ++ x2) #[] (List.replicate m its.toArray) = (List.replicate m its).flatten.toArray := by
 have := Zhi its m []
 rw [List.nil_append] at this
 exact this
section
variable {prog : Program} {w : World} {A : Around} {E : Value -> Shared -> Prop} {s : Shared}
theorem Zwc {l : Addr} {its : List Value} {k : Int} {t : Tok} {Q : Value -> Shared -> Prop} (p : IsTup s.heap l its.toArray) (h1 : -(2 ^ 63) ≤ k) (h2 : k < 2 ^ 63) (hz : its.length * k.toNat ≤ sizeLine)
  (qs : (its = [] ∨ k = 1) → Q (.ref l) s) (qn : its ≠ [] → k ≠ 1 → Q (.ref s.heap.objs.size) { s with heap := s.heap.push { cls := .type "tuple", data := .seq (List.replicate k.toNat its).flatten.toArray } }) :
  wpAny (model prog w) A (binaryOp .Mult (.ref l) (.int k t)) Q E s := by
 obtain ⟨o, e, hc, n, hd⟩ := p
 obtain ⟨c, dd, da, sl⟩ := o
 have hc' : c = .type "tuple" := hc
 have hd' : da = .seq its.toArray n := hd
 subst hc' hd'
 have b1 : (decide (k < -(2 ^ 63)) || decide (k ≥ 2 ^ 63)) = false := by simp; omega
 refine wpAny_binaryOp_repeat_ref (T := "tuple") (U := "int") (by decide) ⟨_, e, rfl⟩ (fun s' => typeIs_int s' k t) Zwl F.fills_int_mul F.slot_int_rmul repT F.slot_int_index.lookup
  (call_meets F.slot_int_rmul (typeIs_int s k t) F.entry_int_rmul (F.args_int_rmul_2 _ _) (rmulT k t l its.toArray n) ⟨e, rfl, ⟨_, e, rfl⟩, ?_⟩)
 by_cases hs : its = [] ∨ k = 1
 ·exact call_meets F.slot_tuple_mul ⟨_, e, rfl⟩ F.entry_tuple_mul (F.args_tuple_mul_2 _ _) (Zpy l its.toArray n k t b1 (by rcases hs with h | h <;> simp [h])) ⟨e, qs hs⟩
 ·have hne : its ≠ [] := fun h => hs (.inl h)
  have hk : k ≠ 1 := fun h => hs (.inr h)
  have b2 : (its.toArray.isEmpty || k == 1) = false := by cases its <;> simp_all
  have new := qn hne hk
  by_cases h0 : k ≤ 0
  ·have z : k.toNat = 0 := by omega
   rw [z] at new
   exact call_meets F.slot_tuple_mul ⟨_, e, rfl⟩ F.entry_tuple_mul (F.args_tuple_mul_2 _ _) (Zry l its.toArray n k t b1 b2 (by simp [h0])) ⟨e, new⟩
  ·have sz : sizeLine = 16777216 := PySem.sizeLine_eq
   have hm : (its.toArray.size : Int) * k ≤ 16777216 := by
    have e1 : k = (k.toNat : Int) := by omega
    rw [List.size_toArray, e1, ← Int.natCast_mul]
    omega
   have b3 : (decide (k ≤ 0) || its.toArray.isEmpty) = false := by cases its <;> simp_all
   refine call_meets F.slot_tuple_mul ⟨_, e, rfl⟩ F.entry_tuple_mul (F.args_tuple_mul_2 _ _) (Ztw l its.toArray n k t b1 b2 b3 (by omega) (by simp only [Builtin.Tuple.tupleTooMany, decide_eq_false_iff_not, sz]; omega) ?_) ⟨e, ?_⟩
   ·rw [Zi2, List.size_toArray, Zl9, Nat.mul_comm]; exact hz
   ·rw [Zi2]; exact new
end
variable {X : Cx}
noncomputable def rRepT (K : PySem.W.Frag) : R2 := fun x y H Q => ∃ l k xs, x = .ref l ∧ y = .int k ∧ SqT K H l xs ∧ -(2 ^ 63) ≤ k ∧ k < 2 ^ 63 ∧ xs.length * k.toNat ≤ sizeLine ∧ ((xs = [] ∨ k = 1) -> Q (.ref l) H) ∧
 (xs ≠ [] -> k ≠ 1 -> ∀ p, H p = none -> Q (.ref p) (upd H p (.tup (List.replicate k.toNat xs).flatten)))
theorem Zwz : OpR X (binaryOp .Mult) (rRepT X.K) := by
 intro pins s σ H x y v u Q I rx ry h
 obtain ⟨l, k, xs, rfl, rfl, ha, h1, h2, hz, q1, q2⟩ := h
 cases rx
 obtain ⟨t, rfl⟩ := ry
 obtain ⟨its, r1, p1, _⟩ := I.tuple ha
 refine Zwc p1 h1 h2 (by rw [← r1.length]; exact hz) (fun z => ⟨.ref l, H, I, rfl, q1 (z.imp r1.nil_iff.mp id)⟩) (fun z zk => ?_)
 refine ⟨.ref s.heap.objs.size, _, I.laid (t' := s.toks) (o := .tup (List.replicate k.toNat xs).flatten) (fun b ob q => Heap.get?_push_of_some _ q) (Nat.le_refl _) ?_, rfl, q2 (fun w => z (r1.nil_iff.mpr w)) zk _ (I.hok.fresh (Nat.le_refl _))⟩
 exact ⟨by rw [Zl9, Nat.mul_comm]; exact hz, _, r1.rep k.toNat, Zj6.new _ _⟩
section
variable {X : Cx}
noncomputable def iiD (C : Int -> Int -> Prop) [∀ i j, Decidable (C i j)] (g : Int -> Int -> D) : F2 := fun x y H => match x, y with
 | .int i, .int j => if C i j then some (g i j, H) else none
 | _, _ => none
theorem Znd {f : Value -> Value -> Sem Value} {C : Int -> Int -> Prop} [∀ i j, Decidable (C i j)] {g : Int -> Int -> Int} (h : OpR X f (rI C fun i j => .int (g i j))) : OpF X f (iiD C fun i j => .int (g i j)) := by
 refine OpRi h fun x y H Q zz => ?_
 obtain ⟨ι, dx, dy, Hd, d, Hd', hr, r1, r2, e, q⟩ := zz
 cases dx <;> cases dy <;> simp only [iiD] at e <;> try cases e
 rename_i i j
 split at e
 ·rename_i hc
  cases e
  simp at r1 r2
  exact ⟨i, j, r1, r2, hc, q _ H ι Le.refl hr (by simp)⟩
 ·cases e
noncomputable def CT (_ _ : Int) : Prop := True
instance : ∀ i j, Decidable (CT i j) := fun _ _ => instDecidableTrue
theorem Zzt {f : Value -> Value -> Sem Value} {g : Int -> Int -> V} (h : OpR X f (rI0 g)) : OpR X f (rI CT g) := OpRi h fun x y H Q ⟨i, j, e1, e2, _, q⟩ => ⟨i, j, e1, e2, q⟩
theorem Znk {f : Value -> Value -> Sem Value} {g : Int -> Int -> Bool} (h : OpR X f (rI0 fun i j => .bl (g i j))) : OpF X f (iiD CT fun i j => .bl (g i j)) := by
 refine OpRi h fun x y H Q zz => ?_
 obtain ⟨ι, dx, dy, Hd, d, Hd', hr, r1, r2, e, q⟩ := zz
 cases dx <;> cases dy <;> simp only [iiD] at e <;> try cases e
 rename_i i j
 simp at r1 r2
 exact ⟨i, j, r1, r2, q _ H ι Le.refl hr (by simp)⟩
instance (i j : Int) : Decidable (Zw3 i j) := by unfold Zw3; exact inferInstance
instance (i j : Int) : Decidable (Zqo i j) := by unfold Zqo; exact inferInstance
instance (i j : Int) : Decidable (Zx5 i j) := by unfold Zx5; exact inferInstance
noncomputable def Zoz (_ j : Int) : Prop := 0 < j
instance (i j : Int) : Decidable (Zoz i j) := by unfold Zoz; exact inferInstance
noncomputable def Zmd : F2 := iiD CT fun i j => .int (i - j)
noncomputable def Zht : F2 := iiD Zw3 fun i j => .int (i / j)
noncomputable def Zgr : F2 := iiD Zoz fun i j => .int (i % j)
noncomputable def Zk5 : F2 := iiD Zx5 fun i j => .int (i ^ j.toNat)
noncomputable def ltD : F2 := iiD CT fun i j => .bl (decide (i < j))
noncomputable def leD : F2 := iiD CT fun i j => .bl (decide (i ≤ j))
noncomputable def gtD : F2 := iiD CT fun i j => .bl (decide (j < i))
noncomputable def geD : F2 := iiD CT fun i j => .bl (decide (j ≤ i))
theorem Zfb : OpF X (binaryOp .Sub) Zmd := Znd (Zzt Zzl)
theorem Zg6 : OpF X (binaryOp .FloorDiv) Zht := Znd Zve
theorem Zh8 : OpF X (binaryOp .Mod) Zgr := Znd (C := Zoz) Zym
theorem Zj5 : OpF X (binaryOp .Pow) Zk5 := Znd Zzn
theorem Zqz : OpF X (compareOp .Lt) ltD := Znk op_lt
theorem Yal : OpF X (compareOp .LtE) leD := Znk op_le
theorem Zhv : OpF X (compareOp .Gt) gtD := Znk op_gt
theorem Yba : OpF X (compareOp .GtE) geD := Znk op_ge
noncomputable def Zm7 : D -> HD -> Option (D × HD) := fun x H => match x with
 | .int i => some (.int (-i), H)
 | _ => none
theorem Zjh : UnF X (unaryOp .USub) Zm7 := by
 rintro pins s σ H x v Q I rx ⟨ι, dx, Hd, d, Hd', hr, r1, e, q⟩
 cases dx <;> simp only [Zm7] at e <;> try cases e
 simp at r1
 exact Zz2 pins s σ H x v Q I rx ⟨_, r1, q _ H ι Le.refl hr (by simp)⟩
theorem Zsv {prog : Program} {w : World} {A : Around} {E : Value -> Shared -> Prop} {s : Shared} {t b : Addr} {ws : List Value} {Q : Value -> Shared -> Prop} (ht : IsTup s.heap t #[]) (hb : IsTup s.heap b ws.toArray)
  (h1 : Q (.ref b) s) : wpAny (model prog w) A (binaryOp .Add (.ref t) (.ref b)) Q E s := by
 obtain ⟨⟨cls, dd, data, sl⟩, ho, hc, n, hd⟩ := id ht
 obtain ⟨⟨cls2, dd2, data2, sl2⟩, ho2, hc2, n2, hd2⟩ := id hb
 simp only at hc hd hc2 hd2
 subst hc hd hc2 hd2
 exact concat_meets ⟨_, ho, rfl⟩ ⟨_, ho2, rfl⟩ noFill_tuple_add seq_tuple_add PySem.F.slot_tuple_add PySem.F.entry_tuple_add (PySem.F.args_tuple_add_2 _ _)
   (tuple_addW0 t b #[] ws.toArray n n2 dd dd2 sl sl2 (by simp)) ⟨ho, ho2, h1⟩
noncomputable def Zb4 : F2 := fun x y H => match x, y with
 | .int i, .int j => some (.int (i + j), H)
 | .str a, .str b => if a.length + b.length ≤ sizeLine then some (.str (a ++ b), H) else none
 | .tup a, .tup b => mkT (a ++ b) H
 | .ref n, .ref m => match H[n]?, H[m]? with
  | some (.lst a), some (.lst b) => mkL (a ++ b) H
  | _, _ => none
 | _, _ => none
theorem Zbw : OpF X (binaryOp .Add) Zb4 := by
 rintro pins s σ H x y v u Q I rx ry ⟨ι, dx, dy, Hd, d, Hd', hr, r1, r2, e, q⟩
 cases dx <;> cases dy <;> simp only [Zb4] at e <;> try cases e
 ·simp at r1 r2
  exact Zzv pins s σ H x y v u Q I rx ry ⟨_, _, r1, r2, q _ H ι Le.refl hr (by simp)⟩
 ·simp at r1 r2
  split at e
  ·rename_i hl
   cases e
   exact Zn6 pins s σ H x y v u Q I rx ry ⟨_, _, r1, r2, hl, q _ H ι Le.refl hr (by simp)⟩
  ·cases e
 ·rename_i as bs
  obtain ⟨a, vs, rfl, h1, p1⟩ := Zbd.mp r1
  obtain ⟨b, ws, rfl, h2, p2⟩ := Zbd.mp r2
  cases p1 with
  | nil =>
   obtain ⟨hl, e⟩ := Zg4 e
   simp only [List.nil_append, Prod.mk.injEq] at e
   obtain ⟨rfl, rfl⟩ := e
   cases rx
   cases ry
   obtain ⟨its, q1, t1, _⟩ := I.tuple h1
   obtain ⟨its2, q2, t2, _⟩ := I.tuple h2
   cases q1
   exact Zsv t1 t2 ⟨.ref b, H, I, rfl, q _ H ι Le.refl hr r2⟩
  | cons p p' =>
   have P := Prd.append (.cons p p') p2
   obtain ⟨hl, e'⟩ := Zg4 e
   cases p2 with
   | nil =>
    simp only [List.append_nil, Prod.mk.injEq] at e'
    obtain ⟨rfl, rfl⟩ := e'
    refine Zpc pins s σ H _ _ v u Q I rx ry ⟨a, b, _, _, rfl, rfl, h1, h2, by simp, ?_, fun _ => q _ H ι Le.refl hr r1, fun z => absurd rfl z⟩
    have := Prd.len P
    simp only [List.append_nil] at this hl
    simp only [List.length_nil]
    omega
   | cons p3 p4 =>
    obtain ⟨k1, k2⟩ := Zhy hr P e q
    refine Zpc pins s σ H _ _ v u Q I rx ry ⟨a, b, _, _, rfl, rfl, h1, h2, by simp, ?_, fun z => absurd z (by simp), fun _ => k2⟩
    rw [← List.length_append]; exact k1
 ·rename_i n m
  obtain ⟨a, rfl, ha⟩ := Zan.mp r1
  obtain ⟨b, rfl, hb⟩ := Zan.mp r2
  split at e
  ·rename_i as bs e1 e2
   obtain ⟨vs, h1, p1⟩ := hr.obj n a _ ha e1
   obtain ⟨ws, h2, p2⟩ := hr.obj m b _ hb e2
   obtain ⟨k1, k2⟩ := Zff hr (Prd.append p1 p2) e q
   exact Zyv pins s σ H _ _ v u Q I rx ry ⟨a, b, vs, ws, rfl, rfl, h1, h2, by rw [← List.length_append]; exact k1, k2⟩
  ·cases e
noncomputable def Zgt : F2 := fun x y H => match x, y with
 | .int i, .int j => if Zqo i j then some (.int (i * j), H) else none
 | .ref n, .int k => match H[n]? with
  | some (.lst a) => if -(2 ^ 63) ≤ k ∧ k < 2 ^ 63 ∧ a.length * k.toNat ≤ sizeLine then mkL (List.replicate k.toNat a).flatten H else none
  | _ => none
 | .tup a, .int k => if -(2 ^ 63) ≤ k ∧ k < 2 ^ 63 ∧ a.length * k.toNat ≤ sizeLine then mkT (List.replicate k.toNat a).flatten H else none
 | _, _ => none
theorem Zei : OpF X (binaryOp .Mult) Zgt := by
 rintro pins s σ H x y v u Q I rx ry ⟨ι, dx, dy, Hd, d, Hd', hr, r1, r2, e, q⟩
 cases dx <;> cases dy <;> simp only [Zgt] at e <;> try cases e
 ·simp at r1 r2
  split at e
  ·rename_i hc
   cases e
   exact Zyw pins s σ H x y v u Q I rx ry ⟨_, _, r1, r2, hc, q _ H ι Le.refl hr (by simp)⟩
  ·cases e
 ·rename_i as k
  obtain ⟨a, vs, rfl, h1, p1⟩ := Zbd.mp r1
  simp at r2
  split at e
  ·rename_i hc
   have hlen := Prd.len p1
   obtain ⟨k1, k2⟩ := Zhy hr (Prd.rep p1 k.toNat) e q
   refine Zwz pins s σ H _ _ v u Q I rx ry ⟨a, k, vs, rfl, r2, h1, hc.1, hc.2.1, by rw [← hlen]; exact hc.2.2, fun z => ?_, fun _ _ => k2⟩
   obtain ⟨_, e'⟩ := Zg4 e
   have hf : (List.replicate k.toNat as).flatten = as := by
    rcases z with z | z
    ·have : as = [] := List.eq_nil_of_length_eq_zero (by rw [hlen, z]; rfl)
     subst this
     simp
    ·subst z
     simp
   rw [hf] at e'
   cases e'
   exact q _ H ι Le.refl hr r1
  ·cases e
 ·rename_i n k
  obtain ⟨a, rfl, ha⟩ := Zan.mp r1
  simp at r2
  split at e
  ·rename_i as e1
   obtain ⟨vs, h1, p1⟩ := hr.obj n a _ ha e1
   split at e
   ·rename_i hc
    obtain ⟨k1, k2⟩ := Zff hr (Prd.rep p1 _) e q
    exact Ya0 pins s σ H _ _ v u Q I rx ry ⟨a, k, vs, rfl, r2, h1, hc.1, hc.2.1, by rw [← Prd.len p1]; exact hc.2.2, k2⟩
   ·cases e
  ·cases e
noncomputable def Zf7 : D -> HD -> Option (List D)
 | .tup xs, _ => some xs
 | .fl xs, _ => some xs
 | .ref n, H => match H[n]? with
  | some (.lst xs) => some xs
  | _ => none
 | _, _ => none
theorem Zlf {K : PySem.W.Frag} {H : Hp} {ι : List Addr} {Hd : HD} {d : D} {xs : List D} {v : V} (hr : HRep K H ι Hd) (r : Rep K H ι d v) (e : Zf7 d Hd = some xs) : ∃ p vs, v = .ref p ∧ (SqL K H p vs ∨ SqT K H p vs) ∧ Paired (Rep K H ι) xs vs := by
 cases d with
 | tup ys => cases e; obtain ⟨a, vs, rfl, h, p⟩ := Zbd.mp r; exact ⟨a, vs, rfl, .inr h, p⟩
 | fl ys => cases e; obtain ⟨a, vs, rfl, h, p⟩ := Zfr.mp r; exact ⟨a, vs, rfl, .inl h.sq, p⟩
 | ref n =>
  obtain ⟨a, rfl, ha⟩ := Zan.mp r
  simp only [Zf7] at e
  split at e
  ·rename_i ys e1
   cases e
   obtain ⟨vs, h1, p1⟩ := hr.obj n a _ ha e1
   exact ⟨a, vs, rfl, .inl (SqL.of h1), p1⟩
  ·cases e
 | _ => simp [Zf7] at e
theorem Zvv {α β : Type} {F : α -> β -> Prop} {xs : List α} {us : List β} {i : Int} {x : α} (r : Paired F xs us) (h : atI xs i = some x) : ∃ u, atI us i = some u ∧ F x u := by
 unfold atI at h ⊢
 rw [← Prd.len r]
 obtain ⟨j, h1, h2⟩ := Zo h
 obtain ⟨u, h3, h4⟩ := Prd.get r h2
 exact ⟨u, by rw [h1]; exact h3, h4⟩
noncomputable def ixD : F2 := fun x y H => match y with
 | .int i => (Zf7 x H).bind fun xs => (atI xs i).map fun d => (d, H)
 | _ => none
theorem ixf : IxF X ixD := by
 rintro va sl pins s σ H x y v u Q I rx ry ⟨ι, dx, dy, Hd, d, Hd', hr, r1, r2, e, q⟩ hs
 cases dy <;> simp only [ixD] at e <;> try cases e
 rename_i i
 simp at r2
 obtain ⟨xs, e1, e⟩ := Zo e
 obtain ⟨d', e2, e⟩ := Zm e
 obtain ⟨rfl, rfl⟩ := Prod.mk.inj e
 obtain ⟨p, vs, rfl, h, P⟩ := Zlf hr r1 e1
 obtain ⟨z, hz, rz⟩ := Zvv P e2
 rcases h with h | h
 ·exact Zxh va sl pins s σ H _ _ v u Q I rx ry ⟨p, vs, i, z, rfl, r2, h, hz, q _ H ι Le.refl hr rz⟩ hs
 ·exact Yag va sl pins s σ H _ _ v u Q I rx ry ⟨p, vs, i, z, rfl, r2, h, hz, q _ H ι Le.refl hr rz⟩ hs
noncomputable def Zuw : Zv8 := fun o i v H => match o, i with
 | .ref n, .int k => match H[n]? with
  | some (.lst xs) => (ixN xs.length k).map fun j => H.set n (.lst (xs.set j v))
  | _ => none
 | _, _ => none
theorem setf : Zwq X Zuw := by
 rintro pins s σ H o i v ov iv u Q I ro ri rv ⟨ι, od, id, vd, Hd, Hd', hr, r1, r2, r3, e, q⟩
 cases od <;> cases id <;> simp only [Zuw] at e <;> try cases e
 rename_i n k
 obtain ⟨a, rfl, ha⟩ := Zan.mp r1
 simp at r2
 split at e
 ·rename_i xs e1
  obtain ⟨j, e2, e⟩ := Zm e
  subst e
  obtain ⟨vs, h1, P⟩ := hr.obj n a _ ha e1
  refine Zsj pins s σ H _ _ v ov iv u Q I ro ri rv ⟨a, vs, k, j, rfl, r2, h1, by rw [← Prd.len P]; exact e2, ?_⟩
  have L : Le X.K H ι (upd H a (.lst (vs.set j v))) ι := Le.upd (List.mem_of_getElem? ha) h1 trivial _
  exact q _ ι L (hr.upd ha h1 trivial ⟨_, Zaq, Prd.set (r3.mono L) j (Prd.mono L P)⟩)
 ·cases e
noncomputable def Zkf (xs : List D) (lo hi : Option Int) : List D := (xs.drop (HT.sIx xs.length 0 lo)).take (HT.sIx xs.length xs.length hi - HT.sIx xs.length 0 lo)
theorem Zjk {K : PySem.W.Frag} {H : Hp} {ι : List Addr} {xs : List D} {vs : List V} (P : Paired (Rep K H ι) xs vs) (lo hi : Option Int) : Paired (Rep K H ι) (Zkf xs lo hi) (Zu5 vs lo hi) := by
 unfold Zkf Zu5
 rw [← Prd.len P]
 exact Prd.take _ (Prd.drop _ P)
noncomputable abbrev OF := SD -> HD -> Option (Option Int × HD)
noncomputable def rdO (K : PySem.W.Frag) (f : OF) : TO := fun σ H Q => ∃ ι σd Hd o Hd', SRep K H ι σ σd ∧ HRep K H ι Hd ∧ f σd Hd = some (o, Hd') ∧ ∀ H' ι', Le K H ι H' ι' -> HRep K H' ι' Hd' -> Q o H'
noncomputable def POf (X : Cx) (e : Option Expr) (f : OF) : Prop := PO X e (rdO X.K f)
noncomputable def Zhp : OF := fun _ H => some (none, H)
noncomputable def Zgu (f : EF) : OF := fun σ H => (f σ H).bind fun p => match p.1 with
 | .int i => some (some i, p.2)
 | _ => none
theorem Zdz : POf X none Zhp := by
 rintro pins s σ H Q I ⟨ι, σd, Hd, o, Hd', sr, hr, e, q⟩
 cases e
 exact Zvn pins s σ H Q I (q H ι Le.refl hr)
theorem Zdy {e : Expr} {f : EF} (h : PEf X e f) : POf X (some e) (Zgu f) := by
 rintro pins s σ H Q I ⟨ι, σd, Hd, o, Hd', sr, hr, e, q⟩
 obtain ⟨⟨d, H1⟩, e1, e⟩ := Zo e
 cases d <;> try cases e
 rename_i i
 exact Zww h pins s σ H Q I ⟨ι, σd, Hd, _, _, sr, hr, e1, fun v H' ι' l h r => ⟨i, by simpa using r, q H' ι' l h⟩⟩
noncomputable def slD (x : D) (lo hi : Option Int) (H : HD) : Option (D × HD) := match x with
 | .tup xs => some (.tup (Zkf xs lo hi), H)
 | .fl xs => some (.ref H.length, H ++ [.lst (Zkf xs lo hi)])
 | .ref n => match H[n]? with
  | some (.lst xs) => some (.ref H.length, H ++ [.lst (Zkf xs lo hi)])
  | _ => none
 | _ => none
theorem Zfj {prog : Program} {w : World} {A : Around} {E : Value -> Shared -> Prop} {s : Shared} {t sl : Addr} {items : Array Value} {vl vu : Value} {lo hi : Option Int} {Q : Value -> Shared -> Prop} (ht : IsTup s.heap t items) (hs : s.heap.IsSliceOf sl vl vu .none) (pl : IsPart vl lo) (pu : IsPart vu hi)
  (hw : HT.sIx items.size 0 lo = 0 ∧ HT.sIx items.size items.size hi = items.size) (h : Q (.ref t) s) : wpAny (model prog w) A (getItem (.ref t) (.ref sl)) Q E s := by
 obtain ⟨os, hos, hcs, hds⟩ := id hs
 have hTs : s.TypeIs (.ref sl) "slice" := ⟨os, hos, hcs⟩
 obtain ⟨ot, hot, hct, nt, hdt⟩ := id ht
 unfold getItem
 try with_reducible refine wpAny_holding ?_
 first | refine wpAny_bind (wpAny_pure ?_) | skip
 refine wpAny_bind (wpAny_sequenceKey ht.typeIs (by decide) ?_)
 refine wpAny_bind (wpAny_callSpecial?_slot (name := Str.ofString "__getitem__") ht.typeIs PyProof.Rows.slot_tuple_getitem
  (wpAny_call_entry PyProof.Rows.slot_tuple_getitem ht.typeIs entry_tuple_getitem ?_ (args_tuple_getitem _ _)))
 show wpAny _ _ (Builtin.Tuple.tupleItemsOf (.ref t) >>= _) _ _ s
 refine wpAny_bind (tupleItemsOf_ ht ?_)
 refine wpAny_bind (wpAny_typeOf hTs ?_)
 rw [if_pos (by decide)]
 refine wpAny_bind (HT.sliceApplied_gen hs pl pu ?_)
 show wpAny _ _ (if (((HT.sIx items.size 0 lo : Nat) : Int) == 0 && (1 : Int) == 1 && (HT.sIx items.size items.size hi - HT.sIx items.size 0 lo) == items.size) = true then _ else _) _ _ s
 rw [if_pos (by rw [hw.1, hw.2]; simp)]
 show wpAny _ _ (Builtin.Tuple.tupleIsExact (Value.ref t) >>= _) _ _ s
 unfold Builtin.Tuple.tupleIsExact
 refine wpAny_bind (wpAny_bind (wpAny_typeOf ht.typeIs (wpAny_pure ?_)))
 rw [if_pos (by decide)]
 exact wpAny_bind (wpAny_rule (wpAny_pure ⟨_, rfl, wpAny_pure h⟩))
theorem Zou {xs : List D} {lo hi : Option Int} (h : HT.sIx xs.length 0 lo = 0 ∧ HT.sIx xs.length xs.length hi = xs.length) : Zkf xs lo hi = xs := by
 unfold Zkf
 rw [h.1, h.2]; simp
noncomputable def rdSl (K : PySem.W.Frag) : V -> Option Int -> Option Int -> Hp -> VK -> Prop := fun x lo hi H Q => ∃ ι dx Hd d Hd', HRep K H ι Hd ∧ Rep K H ι dx x ∧ slD dx lo hi Hd = some (d, Hd') ∧ QE K H ι d Hd' Q
theorem slf : SlR X (rdSl X.K) := by
 rintro pins s σ H x v vl vu lo hi sl Q I rx hs pl pu ⟨ι, dx, Hd, d, Hd', hr, r, e, q⟩
 have lists : ∀ {a : Addr} {xs : List D} {vs : List V}, x = .ref a -> SqL X.K H a vs -> Paired (Rep X.K H ι) xs vs -> (D.ref Hd.length, Hd ++ [DO.lst (Zkf xs lo hi)]) = (d, Hd') →
   ∃ T id, typeLookup (.type T) "__getitem__" = pure (some (.builtin id)) ∧ s.TypeIs v T ∧ wpAny (model X.prog X.w) X.A (getItem v (.ref sl)) (EP X pins σ Q) X.xe s := fun {a xs vs} ex h P e => by
  obtain ⟨_, _, _, hz⟩ := I.list h
  have hz2 : (Zkf xs lo hi).length ≤ sizeLine := by
   rw [Prd.len (Zjk P lo hi)]
   exact Nat.le_trans (Zdv vs lo hi) hz
  obtain ⟨k1, k2⟩ := Zff hr (Zjk P lo hi) (show mkL (Zkf xs lo hi) Hd = some (d, Hd') by unfold mkL; rw [if_pos hz2, e]) q
  exact Zx3 pins s σ H x v vl vu lo hi sl Q I rx hs pl pu ⟨a, vs, ex, h, k2⟩
 cases dx with
 | tup xs =>
  obtain ⟨a, vs, rfl, h, P⟩ := Zbd.mp r
  simp only [slD, Option.some.injEq] at e
  obtain ⟨its, rv, ht, hz⟩ := I.tuple h
  have hlen : its.toArray.size = vs.length := by rw [List.size_toArray]; exact rv.length.symm
  by_cases hw : HT.sIx vs.length 0 lo = 0 ∧ HT.sIx vs.length vs.length hi = vs.length
  ·cases rx
   refine ⟨"tuple", _, PyProof.Rows.slot_tuple_getitem.lookup, ht.typeIs, Zfj ht hs pl pu (by rw [hlen]; exact hw) ?_⟩
   rw [Zou (by rw [Prd.len P]; exact hw)] at e
   obtain ⟨rfl, rfl⟩ := Prod.mk.inj e
   exact ⟨.ref a, H, I, rfl, q _ H ι Le.refl hr r⟩
  ·have hz2 : (Zkf xs lo hi).length ≤ sizeLine := by
    rw [Prd.len (Zjk P lo hi)]
    exact Nat.le_trans (Zdv vs lo hi) hz
   obtain ⟨k1, k2⟩ := Zhy hr (Zjk P lo hi) (show mkT (Zkf xs lo hi) Hd = some (d, Hd') by unfold mkT; rw [if_pos hz2, e]) q
   exact Yat pins s σ H _ v vl vu lo hi sl Q I rx hs pl pu ⟨a, vs, rfl, h, hw, k2⟩
 | fl xs =>
  obtain ⟨a, vs, rfl, h, P⟩ := Zfr.mp r
  simp only [slD, Option.some.injEq] at e
  exact lists rfl h.sq P e
 | ref n =>
  obtain ⟨a, rfl, ha⟩ := Zan.mp r
  simp only [slD] at e
  split at e
  ·rename_i xs e1
   obtain ⟨vs, h1, P⟩ := hr.obj n a _ ha e1
   exact lists rfl (SqL.of h1) P (Option.some.inj e)
  ·cases e
 | _ => simp [slD] at e
noncomputable def eSl (fe : EF) (fl fh : OF) : EF := fun σ H => (fe σ H).bind fun p => (fl σ p.2).bind fun l => (fh σ l.2).bind fun h => slD p.1 l.1 h.1 h.2
theorem Zc7 {e : Expr} {lo hi : Option Expr} {fe : EF} {fl fh : OF} {pos p2 : Pos} (he : PEf X e fe) (hl : POf X lo fl) (hu : POf X hi fh) : PEf X (.Subscript e (.Slice lo hi none p2) pos) (eSl fe fl fh) := by
 refine PEi (Ztf slf he hl hu) fun σ H Q zz => ?_
 obtain ⟨ι, σd, Hd, d, Hd', s, hr, e, q⟩ := zz
 obtain ⟨⟨x, H1⟩, e1, e⟩ := Zo e
 obtain ⟨⟨y, H2⟩, e2, e⟩ := Zo e
 obtain ⟨⟨z, H3⟩, e3, e⟩ := Zo e
 exact ⟨ι, σd, Hd, x, H1, s, hr, e1, fun v1 H1' ι1 l1 h1 r1 => ⟨ι1, σd, H1, y, H2, s.mono l1, h1, e2, fun H2' ι2 l2 h2 => ⟨ι2, σd, H2, z, H3, s.mono (l1.trans l2), h2, e3, fun H3' ι3 l3 h3 =>
  ⟨ι3, x, H3, d, Hd', h3, r1.mono (l2.trans l3), e, fun v H' ι' l h r => q v H' ι' (((l1.trans l2).trans l3).trans l) h r⟩⟩⟩⟩
noncomputable def Zb5 : FF := fun ds H => match ds with
 | [.str x] => if x.length ≤ sizeLine then some (.int x.length, H) else none
 | [d] => (Zf7 d H).map fun xs => (.int xs.length, H)
 | _ => none
theorem Zj7 {K : PySem.W.Frag} {H : Hp} {ι : List Addr} {d : D} {vs : List V} (P : Paired (Rep K H ι) [d] vs) : ∃ v, vs = [v] ∧ Rep K H ι d v := by
 cases P with
 | cons r t => cases t; exact ⟨_, rfl, r⟩
theorem Zz7 {K : PySem.W.Frag} {H : Hp} {ι : List Addr} {d d' : D} {vs : List V} (P : Paired (Rep K H ι) [d, d'] vs) : ∃ v v', vs = [v, v'] ∧ Rep K H ι d v ∧ Rep K H ι d' v' := by
 cases P with
 | cons r t => obtain ⟨v, rfl, r'⟩ := Zj7 t; exact ⟨_, _, rfl, r, r'⟩
theorem Zro : Zgz X (.builtin "len") Zb5 := by
 rintro pins s σ H xs us Q I rv ⟨ι, ds, Hd, d, Hd', hr, P, e, q⟩
 unfold Zb5 at e
 split at e
 ·obtain ⟨v, rfl, r⟩ := Zj7 P
  simp at r
  subst r
  split at e
  ·rename_i hl
   cases e
   exact Zk2 pins s σ H _ us Q I rv ⟨_, rfl, hl, q _ H ι Le.refl hr (by simp)⟩
  ·cases e
 ·obtain ⟨v, rfl, r⟩ := Zj7 P
  obtain ⟨ys, e1, e⟩ := Zm e
  obtain ⟨rfl, rfl⟩ := Prod.mk.inj e
  obtain ⟨p, vs, rfl, h, P2⟩ := Zlf hr r e1
  exact Zk7 pins s σ H _ us Q I rv ⟨p, vs, rfl, h, q _ H ι Le.refl hr (by simp [Prd.len P2])⟩
 ·cases e
noncomputable def Zuc : FF := fun ds H => match ds with
 | [.int i] => some (.int (if i < 0 then -i else i), H)
 | _ => none
theorem Zp2 : Zgz X (.builtin "abs") Zuc := by
 rintro pins s σ H xs us Q I rv ⟨ι, ds, Hd, d, Hd', hr, P, e, q⟩
 unfold Zuc at e
 split at e
 ·obtain ⟨v, rfl, r⟩ := Zj7 P
  simp at r
  subst r
  cases e
  exact Zt7 pins s σ H _ us Q I rv ⟨_, rfl, q _ H ι Le.refl hr (by simp)⟩
 ·cases e
noncomputable def maxD : FF := fun ds H => match ds with
 | [.int i, .int j] => some (.int (if j > i then j else i), H)
 | _ => none
noncomputable def Zx8 : FF := fun ds H => match ds with
 | [.int i, .int j] => some (.int (if j < i then j else i), H)
 | _ => none
theorem Zrs (hc : X.calm = true) : Zgz X (.builtin "max") maxD := by
 rintro pins s σ H xs us Q I rv ⟨ι, ds, Hd, d, Hd', hr, P, e, q⟩
 unfold maxD at e
 split at e
 ·obtain ⟨v, v', rfl, r, r'⟩ := Zz7 P
  simp at r r'
  subst r r'
  cases e
  exact Zra hc pins s σ H _ us Q I rv ⟨_, _, rfl, q _ H ι Le.refl hr (by simp)⟩
 ·cases e
theorem Zrq (hc : X.calm = true) : Zgz X (.builtin "min") Zx8 := by
 rintro pins s σ H xs us Q I rv ⟨ι, ds, Hd, d, Hd', hr, P, e, q⟩
 unfold Zx8 at e
 split at e
 ·obtain ⟨v, v', rfl, r, r'⟩ := Zz7 P
  simp at r r'
  subst r r'
  cases e
  exact Zr6 hc pins s σ H _ us Q I rv ⟨_, _, rfl, q _ H ι Le.refl hr (by simp)⟩
 ·cases e
noncomputable def Zug : FF := fun ds H => match ds with
 | [.int i] => some (.int i, H)
 | [.bl b] => some (.int (if b then 1 else 0), H)
 | _ => none
theorem Zqv : Zgz X (.type "int") Zug := by
 rintro pins s σ H xs us Q I rv ⟨ι, ds, Hd, d, Hd', hr, P, e, q⟩
 unfold Zug at e
 split at e
 ·obtain ⟨v, rfl, r⟩ := Zj7 P
  simp at r
  subst r
  cases e
  exact Zlc pins s σ H _ us Q I rv (.inl ⟨_, rfl, q _ H ι Le.refl hr (by simp)⟩)
 ·obtain ⟨v, rfl, r⟩ := Zj7 P
  simp at r
  subst r
  cases e
  exact Zlc pins s σ H _ us Q I rv (.inr ⟨_, rfl, q _ H ι Le.refl hr (by simp)⟩)
 ·cases e
noncomputable def Zr5 : FF := fun ds H => match ds with
 | [d] => (Zf7 d H).map fun xs => (.ref H.length, H ++ [.lst xs])
 | _ => none
theorem Znw {pins : List (Addr × Obj)} {s : Shared} {σ : L2.St} {H : Hp} {p : Addr} {vs : List V} (I : Inv X pins σ H s) (h : SqL X.K H p vs ∨ SqT X.K H p vs) : vs.length ≤ sizeLine := by
 rcases h with h | h
 ·obtain ⟨_, _, _, z⟩ := I.list h; exact z
 ·obtain ⟨_, _, _, z⟩ := I.tuple h; exact z
theorem Zon : Zgz X (.type "list") Zr5 := by
 rintro pins s σ H xs us Q I rv ⟨ι, ds, Hd, d, Hd', hr, P, e, q⟩
 unfold Zr5 at e
 split at e
 ·obtain ⟨v, rfl, r⟩ := Zj7 P
  obtain ⟨ys, e1, e⟩ := Zm e
  obtain ⟨p, vs, rfl, h, P2⟩ := Zlf hr r e1
  obtain ⟨k1, k2⟩ := Zff hr P2 (show mkL ys Hd = some (d, Hd') by unfold mkL; rw [if_pos (by rw [Prd.len P2]; exact Znw I h), e]) q
  exact Zkv pins s σ H _ us Q I rv ⟨p, vs, rfl, h, k2⟩
 ·cases e
noncomputable def Zdq : FF := fun ds H => match ds with
 | [d] => (Zf7 d H).map fun xs => (.tup xs, H)
 | _ => none
theorem Zlz : Zgz X (.type "tuple") Zdq := by
 rintro pins s σ H xs us Q I rv ⟨ι, ds, Hd, d, Hd', hr, P, e, q⟩
 unfold Zdq at e
 split at e
 ·rename_i d0
  obtain ⟨v, rfl, r⟩ := Zj7 P
  obtain ⟨ys, e1, e⟩ := Zm e
  obtain ⟨p, vs, rfl, h, P2⟩ := Zlf hr r e1
  obtain ⟨k1, k2⟩ := Zhy hr P2 (show mkT ys Hd = some (d, Hd') by unfold mkT; rw [if_pos (by rw [Prd.len P2]; exact Znw I h), e]) q
  refine Zi5 pins s σ H _ us Q I rv ⟨p, vs, rfl, ?_⟩
  rcases h with h | h
  ·exact .inl ⟨h, k2⟩
  ·obtain ⟨rfl, rfl⟩ := Prod.mk.inj e
   exact .inr ⟨h, q _ H ι Le.refl hr (Zbd.mpr ⟨p, vs, rfl, h, P2⟩)⟩
 ·cases e
noncomputable def Zdc (x : D) (ds : List D) (H : HD) : Option (D × HD) := match x, ds with
 | .ref n, [d] => match H[n]? with
  | some (.lst xs) => if xs.length < sizeLine then some (.non, H.set n (.lst (xs ++ [d]))) else none
  | _ => none
 | _, _ => none
theorem Zcx : MtF X "list.append" Zdc := by
 rintro pins s σ H x xs v us Q I rx rv ⟨ι, dx, ds, Hd, d, Hd', hr, r1, P, e, q⟩
 unfold Zdc at e
 split at e
 ·rename_i n d1
  obtain ⟨a, rfl, ha⟩ := Zan.mp r1
  obtain ⟨z, rfl, rz⟩ := Zj7 P
  split at e
  ·rename_i ys e1
   split at e
   ·rename_i hl
    cases e
    obtain ⟨vs, h1, P1⟩ := hr.obj n a _ ha e1
    refine Zh9 pins s σ H _ _ v us Q I rx rv ⟨a, vs, z, rfl, rfl, h1, by rw [← Prd.len P1]; exact hl, ?_⟩
    have L : Le X.K H ι (upd H a (.lst (vs ++ [z]))) ι := Le.upd (List.mem_of_getElem? ha) h1 trivial _
    exact q _ _ ι L (hr.upd ha h1 trivial ⟨_, Zaq, Prd.append (Prd.mono L P1) (.cons (rz.mono L) .nil)⟩) (by simp)
   ·cases e
  ·cases e
 ·cases e
noncomputable def Zyj (x : D) (ds : List D) (H : HD) : Option (D × HD) := match x, ds with
 | .ref n, [.int i] => match H[n]? with
  | some (.lst xs) => if -(2 ^ 63) ≤ i ∧ i < 2 ^ 63 then (seqIndex? i xs.length).bind fun k => (xs[k]?).map fun d => (d, H.set n (.lst (xs.eraseIdx k))) else none
  | _ => none
 | _, _ => none
theorem Zxx : MtF X "list.pop" Zyj := by
 rintro pins s σ H x xs v us Q I rx rv ⟨ι, dx, ds, Hd, d, Hd', hr, r1, P, e, q⟩
 unfold Zyj at e
 split at e
 ·rename_i n i
  obtain ⟨a, rfl, ha⟩ := Zan.mp r1
  obtain ⟨z, rfl, rz⟩ := Zj7 P
  simp at rz
  subst rz
  split at e
  ·rename_i ys e1
   split at e
   ·rename_i hl
    obtain ⟨k, e2, e⟩ := Zo e
    obtain ⟨d1, e3, e⟩ := Zm e
    obtain ⟨rfl, rfl⟩ := Prod.mk.inj e
    obtain ⟨vs, h1, P1⟩ := hr.obj n a _ ha e1
    obtain ⟨u, hu, ru⟩ := Prd.get P1 e3
    refine Zso pins s σ H _ _ v us Q I rx rv ⟨a, vs, i, k, u, rfl, rfl, h1, hl.1, hl.2, by rw [← Prd.len P1]; exact e2, hu, ?_⟩
    have L : Le X.K H ι (upd H a (.lst (vs.eraseIdx k))) ι := Le.upd (List.mem_of_getElem? ha) h1 trivial _
    exact q _ _ ι L (hr.upd ha h1 trivial ⟨_, Zaq, Prd.eraseIdx k (Prd.mono L P1)⟩) (ru.mono L)
   ·cases e
  ·cases e
 ·cases e
end
mutual
noncomputable def toP (H : HD) : Nat -> D -> Option PyData
 | _, .non => some .none
 | _, .bl b => some (.bool b)
 | _, .int i => some (.int i)
 | _, .str x => some (.str x)
 | _, .ty _ => none
 | n, .tup xs => (Ze9 H n xs).map .tuple
 | n, .fl xs => (Ze9 H n xs).map .list
 | 0, .ref _ => none
 | n + 1, .ref k => match H[k]? with
  | some (.lst xs) => (Ze9 H n xs).map .list
  | _ => none
termination_by n d => (n, sizeOf d)
noncomputable def Ze9 (H : HD) : Nat -> List D -> Option (List PyData)
 | _, [] => some []
 | n, d :: ds => (toP H n d).bind fun x => (Ze9 H n ds).map fun r => x :: r
termination_by n ds => (n, sizeOf ds)
end
section
variable {X : Cx} {pins : List (Addr × Obj)} {σ : L2.St} {H : Hp} {s : Shared} {ι : List Addr} {Hd : HD}
mutual
theorem Zbl (I : Inv X pins σ H s) (hr : HRep X.K H ι Hd) : ∀ (n : Nat) (d : D) {x : PyData} {v : V} {u : Value}, toP Hd n d = some x -> Rep X.K H ι d v -> Zbv v u -> ∃ as, Reads s.heap u x as
 | n, .non, x, v, u, e, r, q => by
  rw [toP] at e; cases e; simp at r; subst r; cases q; exact ⟨_, .none⟩
 | n, .bl b, x, v, u, e, r, q => by
  rw [toP] at e; cases e; simp at r; subst r; cases q; exact ⟨_, .bool b⟩
 | n, .int i, x, v, u, e, r, q => by
  rw [toP] at e; cases e; simp at r; subst r; obtain ⟨t, rfl⟩ := q; exact ⟨_, .int i t⟩
 | n, .str z, x, v, u, e, r, q => by
  rw [toP] at e; cases e; simp at r; subst r; obtain ⟨t, rfl⟩ := q; exact ⟨_, .str z t⟩
 | n, .ty _, x, v, u, e, r, q => by rw [toP] at e; cases e
 | n, .tup xs, x, v, u, e, r, q => by
  rw [toP] at e
  obtain ⟨ps, e1, rfl⟩ := Zm e
  obtain ⟨a, vs, rfl, h, P⟩ := Zbd.mp r
  cases q
  obtain ⟨its, rv, ⟨o, ho, hc, m, hd⟩, hz⟩ := I.tuple h
  obtain ⟨as, ra⟩ := Zdw I hr n xs e1 P rv
  exact ⟨_, .tuple ho hc hd (by simpa using ra)⟩
 | n, .fl xs, x, v, u, e, r, q => by
  rw [toP] at e
  obtain ⟨ps, e1, rfl⟩ := Zm e
  obtain ⟨a, vs, rfl, h, P⟩ := Zfr.mp r
  cases q
  obtain ⟨its, rv, pl, hz⟩ := I.list h.sq
  obtain ⟨o, ho, hc, m, hd⟩ := pl.isList
  obtain ⟨as, ra⟩ := Zdw I hr n xs e1 P rv
  exact ⟨_, .list ho hc hd (by simpa using ra)⟩
 | 0, .ref k, x, v, u, e, r, q => by rw [toP] at e; cases e
 | n + 1, .ref k, x, v, u, e, r, q => by
  rw [toP] at e
  split at e
  ·rename_i xs eo
   obtain ⟨ps, e1, rfl⟩ := Zm e
   obtain ⟨a, rfl, ha⟩ := Zan.mp r
   cases q
   obtain ⟨vs, h1, P⟩ := hr.obj k a _ ha eo
   obtain ⟨its, rv, pl, hz⟩ := I.list (SqL.of h1)
   obtain ⟨o, ho, hc, m, hd⟩ := pl.isList
   obtain ⟨as, ra⟩ := Zdw I hr n xs e1 P rv
   exact ⟨_, .list ho hc hd (by simpa using ra)⟩
  ·cases e
termination_by n d => (n, sizeOf d)
theorem Zdw (I : Inv X pins σ H s) (hr : HRep X.K H ι Hd) : ∀ (n : Nat) (ds : List D) {xs : List PyData} {vs : List V} {us : List Value}, Ze9 Hd n ds = some xs -> Paired (Rep X.K H ι) ds vs -> Zbf vs us -> ∃ as, ReadsAll s.heap us xs as
 | n, [], xs, vs, us, e, P, q => by
  rw [Ze9] at e; cases e; cases P; cases q; exact ⟨_, .nil⟩
 | n, d :: ds, xs, vs, us, e, P, q => by
  rw [Ze9] at e
  obtain ⟨x, e1, e⟩ := Zo e
  obtain ⟨r, e2, rfl⟩ := Zm e
  cases P with
  | cons p P =>
   cases q with
   | cons q Q =>
    obtain ⟨as, ra⟩ := Zbl I hr n d e1 p q
    obtain ⟨bs, rb⟩ := Zdw I hr n ds e2 P Q
    exact ⟨_, .cons ra rb⟩
termination_by n ds => (n, sizeOf ds)
end
noncomputable def okP (x : PyData) : Bool := x.canLay0 && decide (x.depth ≤ 30)
noncomputable def dat (d : D) (H : HD) : Option PyData := (toP H 30 d).bind fun x => if okP x = true then some x else none
theorem Zbp {d : D} {x : PyData} (e : dat d Hd = some x) : toP Hd 30 d = some x ∧ x.canLay0 = true ∧ x.depth ≤ 30 := by
 obtain ⟨y, e1, e⟩ := Zo e
 split at e
 ·rename_i h
  cases e
  rw [okP, Bool.and_eq_true, decide_eq_true_eq] at h
  exact ⟨e1, h⟩
 ·cases e
noncomputable def Zoj : D -> D -> Option (Str × Str)
 | .str a, .str b => some (a, b)
 | _, _ => none
theorem Zkq {x y : D} {a b : Str} (h : Zoj x y = some (a, b)) : x = .str a ∧ y = .str b := by
 unfold Zoj at h
 split at h
 ·cases h; exact ⟨rfl, rfl⟩
 ·cases h
noncomputable def eqD : F2 := fun x y H => match Zoj x y with
 | some (a, b) => some (.bl (a == b), H)
 | none => (dat x H).bind fun p => (dat y H).map fun q => (.bl (PyData.eqv p q), H)
noncomputable def neD : F2 := fun x y H => match Zoj x y with
 | some (a, b) => some (.bl (a != b), H)
 | none => (dat x H).bind fun p => (dat y H).map fun q => (.bl (!PyData.eqv p q), H)
theorem Zb6 (hu : X.A.units + 64 < cLine) : OpF X (compareOp .Eq) eqD := by
 rintro pins s σ H x y v u Q I rx ry ⟨ι, dx, dy, Hd, d, Hd', hr, r1, r2, e, q⟩
 unfold eqD at e
 split at e
 ·rename_i a b es
  obtain ⟨rfl, rfl⟩ := Zkq es
  obtain ⟨rfl, rfl⟩ := Prod.mk.inj (Option.some.inj e)
  simp at r1 r2
  subst r1 r2
  obtain ⟨t1, rfl⟩ := rx
  obtain ⟨t2, rfl⟩ := ry
  exact PyProof.Rows.eq_str ⟨.bl _, H, I, rfl, q _ H ι Le.refl hr (by simp)⟩
 ·obtain ⟨p, e1, e⟩ := Zo e
  obtain ⟨p2, e2, e⟩ := Zm e
  obtain ⟨rfl, rfl⟩ := Prod.mk.inj e
  obtain ⟨t1, c1, d1⟩ := Zbp e1
  obtain ⟨t2, c2, d2⟩ := Zbp e2
  obtain ⟨as, ra⟩ := Zbl I hr _ _ t1 r1 rx
  obtain ⟨bs, rb⟩ := Zbl I hr _ _ t2 r2 ry
  exact SeqAt.compareEq_reads ra rb c1 c2 (by omega) ⟨.bl _, H, I, rfl, q _ H ι Le.refl hr (by simp)⟩
theorem Zhl (hu : X.A.units + 64 < cLine) : OpF X (compareOp .NotEq) neD := by
 rintro pins s σ H x y v u Q I rx ry ⟨ι, dx, dy, Hd, d, Hd', hr, r1, r2, e, q⟩
 unfold neD at e
 split at e
 ·rename_i a b es
  obtain ⟨rfl, rfl⟩ := Zkq es
  obtain ⟨rfl, rfl⟩ := Prod.mk.inj (Option.some.inj e)
  simp at r1 r2
  subst r1 r2
  obtain ⟨t1, rfl⟩ := rx
  obtain ⟨t2, rfl⟩ := ry
  exact PyProof.Rows.ne_str ⟨.bl _, H, I, rfl, q _ H ι Le.refl hr (by simp)⟩
 ·obtain ⟨p, e1, e⟩ := Zo e
  obtain ⟨p2, e2, e⟩ := Zm e
  obtain ⟨rfl, rfl⟩ := Prod.mk.inj e
  obtain ⟨t1, c1, d1⟩ := Zbp e1
  obtain ⟨t2, c2, d2⟩ := Zbp e2
  obtain ⟨as, ra⟩ := Zbl I hr _ _ t1 r1 rx
  obtain ⟨bs, rb⟩ := Zbl I hr _ _ t2 r2 ry
  exact SeqAt.compareNe_reads ra rb c1 c2 (by omega) ⟨.bl _, H, I, rfl, q _ H ι Le.refl hr (by simp)⟩
noncomputable def Zen : PyData -> Option (List PyData)
 | .list xs => some xs
 | .tuple xs => some xs
 | _ => none
noncomputable def inD : F2 := fun x y H => (dat x H).bind fun p => (dat y H).bind fun q => (Zen q).map fun xs => (.bl (xs.any fun z => PyData.eqv z p), H)
noncomputable def niD : F2 := fun x y H => (dat x H).bind fun p => (dat y H).bind fun q => (Zen q).map fun xs => (.bl (!xs.any fun z => PyData.eqv z p), H)
theorem Yah (hu : X.A.units + 64 < cLine) : OpF X (compareOp .In) inD := by
 rintro pins s σ H x y v u Q I rx ry ⟨ι, dx, dy, Hd, d, Hd', hr, r1, r2, e, q⟩
 obtain ⟨p, e1, e⟩ := Zo e
 obtain ⟨p2, e2, e⟩ := Zo e
 obtain ⟨xs, e3, e⟩ := Zm e
 obtain ⟨rfl, rfl⟩ := Prod.mk.inj e
 obtain ⟨t1, c1, d1⟩ := Zbp e1
 obtain ⟨t2, c2, d2⟩ := Zbp e2
 obtain ⟨as, ra⟩ := Zbl I hr _ _ t1 r1 rx
 obtain ⟨bs, rb⟩ := Zbl I hr _ _ t2 r2 ry
 have fin : EP X pins σ Q (.bool (xs.any fun z => PyData.eqv z p)) s := ⟨.bl _, H, I, rfl, q _ H ι Le.refl hr (by simp)⟩
 cases p2 with
 | list ys =>
  cases e3
  simp only [PyData.canLay0] at c2
  simp only [PyData.depth] at d2
  exact SeqAt.in_list_reads rb ra c2 c1 (by omega) fin
 | tuple ys =>
  cases e3
  simp only [PyData.canLay0] at c2
  simp only [PyData.depth] at d2
  exact SeqAt.in_tuple_reads rb ra c2 c1 (by omega) fin
 | _ => simp [Zen] at e3
theorem Zyx (hu : X.A.units + 64 < cLine) : OpF X (compareOp .NotIn) niD := by
 rintro pins s σ H x y v u Q I rx ry ⟨ι, dx, dy, Hd, d, Hd', hr, r1, r2, e, q⟩
 obtain ⟨p, e1, e⟩ := Zo e
 obtain ⟨p2, e2, e⟩ := Zo e
 obtain ⟨xs, e3, e⟩ := Zm e
 obtain ⟨rfl, rfl⟩ := Prod.mk.inj e
 obtain ⟨t1, c1, d1⟩ := Zbp e1
 obtain ⟨t2, c2, d2⟩ := Zbp e2
 obtain ⟨as, ra⟩ := Zbl I hr _ _ t1 r1 rx
 obtain ⟨bs, rb⟩ := Zbl I hr _ _ t2 r2 ry
 have fin : EP X pins σ Q (.bool (!xs.any fun z => PyData.eqv z p)) s := ⟨.bl _, H, I, rfl, q _ H ι Le.refl hr (by simp)⟩
 cases p2 with
 | list ys =>
  cases e3
  simp only [PyData.canLay0] at c2
  simp only [PyData.depth] at d2
  exact SeqAt.notIn_list_reads rb ra c2 c1 (by omega) fin
 | tuple ys =>
  cases e3
  simp only [PyData.canLay0] at c2
  simp only [PyData.depth] at d2
  exact SeqAt.notIn_tuple_reads rb ra c2 c1 (by omega) fin
 | _ => simp [Zen] at e3
noncomputable def isB (x y : D) : Option Bool := match y, x with
 | .non, .non => some true
 | .non, _ => some false
 | .bl b, .bl c => some (c == b)
 | .bl _, _ => some false
 | _, _ => none
noncomputable def isD : F2 := fun x y H => (isB x y).map fun b => (.bl b, H)
theorem Zmf {M : Model} {A : Around} {E : Value -> Shared -> Prop} {s : Shared} {Q : Value -> Shared -> Prop} {v : Value} {b : Bool} (hv : ∀ i, v ≠ .builtin i) (h : Q (.bool (v == .bool b)) s) : wpAny M A (compareOp .Is v (.bool b)) Q E s := by
 cases v <;> first | exact wpAny_pure h | exact absurd rfl (hv _)
theorem Zxd {x : V} {v : Value} (r : Zbv x v) : ∀ i, v ≠ .builtin i := by
 intro i
 cases x with
 | non => cases r; intro z; cases z
 | bl _ => cases r; intro z; cases z
 | int _ => obtain ⟨t, rfl⟩ := r; intro z; cases z
 | str _ => obtain ⟨t, rfl⟩ := r; intro z; cases z
 | byt _ => obtain ⟨t, rfl⟩ := r; intro z; cases z
 | flt _ => obtain ⟨t, rfl⟩ := r; intro z; cases z
 | ref _ => cases r; intro z; cases z
 | ty _ => cases r; intro z; cases z
theorem Zzm {dx dy : D} {x y : V} {v u : Value} {b : Bool} (r1 : Rep X.K H ι dx x) (r2 : Rep X.K H ι dy y) (rx : Zbv x v) (ry : Zbv y u) (e : isB dx dy = some b) :
  (u = .none ∧ b = (v == .none)) ∨ ∃ c, u = .bool c ∧ b = (v == .bool c) := by
 cases dy with
 | non =>
  simp at r2; subst r2; cases ry
  refine .inl ⟨rfl, ?_⟩
  cases dx with
  | non => simp at r1; subst r1; cases rx; cases e; rfl
  | bl _ => simp at r1; subst r1; cases rx; cases e; rfl
  | int _ => simp at r1; subst r1; obtain ⟨t, rfl⟩ := rx; cases e; rfl
  | str _ => simp at r1; subst r1; obtain ⟨t, rfl⟩ := rx; cases e; rfl
  | ty _ => simp at r1; subst r1; cases rx; cases e; rfl
  | tup _ => obtain ⟨a, _, rfl, _⟩ := Zbd.mp r1; cases rx; cases e; rfl
  | fl _ => obtain ⟨a, _, rfl, _⟩ := Zfr.mp r1; cases rx; cases e; rfl
  | ref _ => obtain ⟨a, rfl, _⟩ := Zan.mp r1; cases rx; cases e; rfl
 | bl c =>
  simp at r2; subst r2; cases ry
  refine .inr ⟨c, rfl, ?_⟩
  cases dx with
  | non => simp at r1; subst r1; cases rx; cases e; rfl
  | bl z => simp at r1; subst r1; cases rx; cases e; cases z <;> cases c <;> rfl
  | int _ => simp at r1; subst r1; obtain ⟨t, rfl⟩ := rx; cases e; rfl
  | str _ => simp at r1; subst r1; obtain ⟨t, rfl⟩ := rx; cases e; rfl
  | ty _ => simp at r1; subst r1; cases rx; cases e; rfl
  | tup _ => obtain ⟨a, _, rfl, _⟩ := Zbd.mp r1; cases rx; cases e; rfl
  | fl _ => obtain ⟨a, _, rfl, _⟩ := Zfr.mp r1; cases rx; cases e; rfl
  | ref _ => obtain ⟨a, rfl, _⟩ := Zan.mp r1; cases rx; cases e; rfl
 | _ => simp [isB] at e
theorem Znb : OpF X (compareOp .Is) isD := by
 rintro pins s σ H x y v u Q I rx ry ⟨ι, dx, dy, Hd, d, Hd', hr, r1, r2, e, q⟩
 obtain ⟨b, e1, e⟩ := Zm e
 obtain ⟨rfl, rfl⟩ := Prod.mk.inj e
 have fin : EP X pins σ Q (.bool b) s := ⟨.bl _, H, I, rfl, q _ H ι Le.refl hr (by simp)⟩
 rcases Zzm r1 r2 rx ry e1 with ⟨rfl, rfl⟩ | ⟨c, rfl, rfl⟩
 ·exact is_none_gen fin
 ·exact Zmf (Zxd rx) fin
noncomputable def Zvm : D -> Bool
 | .tup _ => true
 | _ => false
noncomputable def Zgf : List D -> Option (List Int)
 | [] => some []
 | .int i :: r => (Zgf r).map fun s => i :: s
 | _ => none
noncomputable def Zd3 (ns : List Int) : List Int := ns.mergeSort (fun a b => decide (a ≤ b))
theorem Zdn (ns : List Int) : (Zd3 ns).Perm ns := List.mergeSort_perm ns _
theorem Ztk (ns : List Int) : (Zd3 ns).Pairwise (· ≤ ·) := by
 have h := List.pairwise_mergeSort (le := fun a b : Int => decide (a ≤ b)) (by intro a b c h1 h2; simp at *; omega) (by intro a b; simp; omega) ns
 exact h.imp (by intro a b h; simpa using h)
theorem Zks : ∀ {xs ys : List Int}, xs.Perm ys -> xs.Pairwise (· ≤ ·) -> ys.Pairwise (· ≤ ·) -> xs = ys
 | [], ys, p, _, _ => by simpa using p.symm
 | x :: xs, [], p, _, _ => by simpa using p
 | x :: xs, y :: ys, p, h1, h2 => by
  rw [List.pairwise_cons] at h1 h2
  have a1 : y ∈ x :: xs := p.symm.subset (by simp)
  have a2 : x ∈ y :: ys := p.subset (by simp)
  have e : x = y := by
   rcases List.mem_cons.mp a1 with z | z
   ·exact z.symm
   ·rcases List.mem_cons.mp a2 with w | w
    ·exact w
    ·have := h1.1 y z
     have := h2.1 x w
     omega
  subst e
  rw [Zks (List.Perm.cons_inv p) h1.2 h2.2]
noncomputable def Zhf : FF := fun ds H => match ds with
 | [d] => (Zf7 d H).bind fun xs => (Zgf xs).bind fun ns => if ns.length < 64 ∧ Zvm d = false then some (.ref H.length, H ++ [.lst ((Zd3 ns).map .int)]) else none
 | _ => none
theorem Zdh {K : PySem.W.Frag} : ∀ {xs : List D} {ns : List Int} {vs : List V}, Zgf xs = some ns -> Paired (Rep K H ι) xs vs -> vs = ns.map V.int
 | [], ns, vs, e, P => by cases P; cases e; rfl
 | .int i :: r, ns, vs, e, P => by
  simp only [Zgf] at e
  obtain ⟨s, e1, rfl⟩ := Zm e
  cases P with
  | cons p P =>
   simp at p
   subst p
   rw [Zdh e1 P]
   rfl
 | .non :: _, _, _, e, _ => by simp [Zgf] at e
 | .bl _ :: _, _, _, e, _ => by simp [Zgf] at e
 | .str _ :: _, _, _, e, _ => by simp [Zgf] at e
 | .ty _ :: _, _, _, e, _ => by simp [Zgf] at e
 | .tup _ :: _, _, _, e, _ => by simp [Zgf] at e
 | .fl _ :: _, _, _, e, _ => by simp [Zgf] at e
 | .ref _ :: _, _, _, e, _ => by simp [Zgf] at e
theorem Zrk : ∀ {ns : List Int} {us : List Value}, IntsAre us ns -> Zbf (ns.map V.int) us := by
 intro ns us h
 induction h with
 | nil => exact .nil
 | cons n t _ ih => exact .cons ⟨t, rfl⟩ ih
theorem Zri {K : PySem.W.Frag} (ns : List Int) : Paired (Rep K H ι) (ns.map D.int) (ns.map V.int) := by
 induction ns with
 | nil => exact .nil
 | cons n r ih => exact .cons (by simp) ih
theorem Zla : Zgz X (.builtin "sorted") Zhf := by
 rintro pins s σ H xs us Q I rv ⟨ι, ds, Hd, d, Hd', hr, P, e, q⟩
 unfold Zhf at e
 split at e
 ·rename_i d0
  obtain ⟨v, rfl, r⟩ := Zj7 P
  obtain ⟨ys, e1, e⟩ := Zo e
  obtain ⟨ns, e2, e⟩ := Zo e
  split at e
  ·rename_i hc
   obtain ⟨p, vs, rfl, h, P2⟩ := Zlf hr r e1
   have hL : SqL X.K H p vs := by
    cases d0 with
    | tup _ => exact absurd hc.2 (by simp [Zvm])
    | fl zs =>
     obtain ⟨a, ws, e3, h3, P3⟩ := Zfr.mp r
     cases e3
     cases e1
     have : vs = ws := (Zdh e2 P2).trans (Zdh e2 P3).symm
     rw [this]; exact h3.sq
    | ref n =>
     obtain ⟨a, e3, h3⟩ := Zan.mp r
     cases e3
     simp only [Zf7] at e1
     split at e1
     ·rename_i zs eo
      cases e1
      obtain ⟨ws, h4, P4⟩ := hr.obj n _ _ h3 eo
      have : vs = ws := (Zdh e2 P2).trans (Zdh e2 P4).symm
      rw [this]; exact SqL.of h4
     ·cases e1
    | _ => simp [Zf7] at e1
   obtain ⟨u, rfl, ru⟩ := Zg0 rv
   cases ru
   have ev := Zdh e2 P2
   subst ev
   obtain ⟨its, ri, pl, hz⟩ := I.list hL
   have il : its.length = ns.length := by rw [← ri.length, List.length_map]
   refine sorted_ints pl.isList (Zoa ri) (by omega) fun out ns' a1 a2 a3 => ?_
   have en : ns' = Zd3 ns := Zks (a2.trans (Zdn ns).symm) a3 (Ztk ns)
   subst en
   obtain ⟨k, hk⟩ := sortedAll_at s.heap its out
   have hp0 : H (s.heap.objs.size + 1) = none := I.hok.fresh (Nat.le_succ _)
   have hl : ((Zd3 ns).map V.int).length ≤ sizeLine := by
    rw [List.length_map, (Zdn ns).length_eq]
    have : sizeLine = 16777216 := sizeLine_eq
    omega
   refine ⟨.ref (s.heap.objs.size + 1), _, I.laid (t' := s.toks) (o := .lst ((Zd3 ns).map V.int)) (fun b ob eb => sortedAll_old eb) (Nat.le_succ _) ⟨hl, out.toList, k, Zrk a1, by simpa using hk⟩, rfl, ?_⟩
   have hz2 : ((Zd3 ns).map D.int).length ≤ sizeLine := by simpa using hl
   exact (Zff hr (Zri (Zd3 ns)) (show mkL ((Zd3 ns).map D.int) Hd = some (d, Hd') by unfold mkL; rw [if_pos hz2, e]) q).2 _ hp0
  ·cases e
 ·cases e
end
section
variable {X : Cx} {tg : Expr}
noncomputable def Zgn : D -> HD -> Option (List D × Zgy)
 | .tup xs, _ => some (xs, [])
 | .fl xs, _ => some (xs, [])
 | .ref n, H => match H[n]? with
  | some (.lst xs) => some (xs, [(n, .lst xs)])
  | _ => none
 | _, _ => none
noncomputable def Zb3 (i : Int) : Prop := -(2 ^ 62) ≤ i ∧ i < 2 ^ 62
instance (i : Int) : Decidable (Zb3 i) := by unfold Zb3; exact inferInstance
noncomputable def Za2 (lo : Int) (n : Nat) : List D := (List.range n).map fun k : Nat => .int (lo + (k : Int))
theorem Zn1 {lo : Int} {n i : Nat} {d : D} (h : (Za2 lo n)[i]? = some d) : i < n ∧ d = .int (lo + i) := by
 unfold Za2 at h
 rw [List.getElem?_map] at h
 obtain ⟨k, h1, rfl⟩ := Zm h
 rw [List.getElem?_eq_some_iff] at h1
 obtain ⟨hl, h1⟩ := h1
 simp at h1 hl
 subst h1
 exact ⟨hl, rfl⟩
theorem Zk6 {K : PySem.W.Frag} {H0 : Hp} {ι0 : List Addr} (lo : Int) (n : Nat) : ItRep K (Itr lo n) (Za2 lo n) [] H0 ι0 := by
 refine ⟨fun i H2 ι2 Hd2 l2 h2 _ hi => (show i < n by simpa [Za2] using hi), fun i H2 ι2 Hd2 d x H3 l2 h2 _ hd y => ?_, fun i H2 ι2 Hd2 l2 h2 _ hi => (show n ≤ i by simpa [Za2] using hi)⟩
 obtain ⟨rfl, rfl⟩ := y
 obtain ⟨_, rfl⟩ := Zn1 hd
 exact ⟨ι2, Le.refl, h2, by simp⟩
noncomputable def iR1 (f : AF) : ItF := fun σ H => (f σ H).bind fun p => match p.1 with
 | [.int j] => if Zb3 j then some ((Za2 0 j.toNat, []), p.2) else none
 | _ => none
noncomputable def iR2 (f : AF) : ItF := fun σ H => (f σ H).bind fun p => match p.1 with
 | [.int i, .int j] => if Zb3 i ∧ Zb3 j then some ((Za2 i (j - i).toNat, []), p.2) else none
 | _ => none
theorem Zn5 {a : Expr} {f : AF} {p pos : Pos} (hg : Gl X "range") (hm : X.mg "range" = none) (ha : PAf X [a] f) (hs : starEach [a] X.env = [(false, eval a X.env)] := by rfl) : PIf X tg (.Call (.Name "range" p) [a] [] pos) (iR1 f) := by
 refine PIi (Zo3 hg hm ha hs) fun σ H R zz => ?_
 obtain ⟨ι, σd, Hd, xs, own, Hd', s, hr, e, q⟩ := zz
 obtain ⟨⟨ds, H1⟩, e1, e⟩ := Zo e
 dsimp only at e
 split at e
 ·rename_i j
  split at e
  ·rename_i hj
   cases e
   refine ⟨ι, σd, Hd, _, _, s, hr, e1, fun vs H' ι' l h P => ?_⟩
   obtain ⟨v, rfl, r⟩ := Zj7 P
   simp at r
   subst r
   exact ⟨j, rfl, hj.1, hj.2, q _ H' ι' l h (Zk6 0 _)⟩
  ·cases e
 ·cases e
theorem Zn4 {a b : Expr} {f : AF} {p pos : Pos} (hg : Gl X "range") (hm : X.mg "range" = none) (ha : PAf X [a, b] f) (hs : starEach [a, b] X.env = [(false, eval a X.env), (false, eval b X.env)] := by rfl) (hs2 : starEach [b] X.env = [(false, eval b X.env)] := by rfl) :
  PIf X tg (.Call (.Name "range" p) [a, b] [] pos) (iR2 f) := by
 refine PIi (Zp3 hg hm ha hs hs2) fun σ H R zz => ?_
 obtain ⟨ι, σd, Hd, xs, own, Hd', s, hr, e, q⟩ := zz
 obtain ⟨⟨ds, H1⟩, e1, e⟩ := Zo e
 dsimp only at e
 split at e
 ·rename_i i j
  split at e
  ·rename_i hj
   cases e
   refine ⟨ι, σd, Hd, _, _, s, hr, e1, fun vs H' ι' l h P => ?_⟩
   obtain ⟨v, v', rfl, r, r'⟩ := Zz7 P
   simp at r r'
   subst r r'
   exact ⟨i, j, rfl, ⟨hj.1.1, hj.1.2, hj.2.1, hj.2.2⟩, q _ H' ι' l h (Zk6 _ _)⟩
  ·cases e
 ·cases e
end
open Builtin.SmallTypes (nextOf)
section
variable {prog : Program} {w : World} {A : Around} {E : Value -> Shared -> Prop} {s : Shared}
theorem Zs5 {j t : Addr} {i : Nat} {its : Array Value} {x : Value} {Q : Value -> Shared -> Prop} (hj : s.heap.IsTupleIter j t i) (ht : s.heap.IsTuple t its) (hx : its[i]? = some x)
  (hQ : ∀ h', h'.IsTupleIter j t (i + 1) -> Heap.SameBut j s.heap h' -> Q x { s with heap := h' }) : wpAny (model prog w) A (nextOf (.ref j)) Q E s := by
 obtain ⟨oj, ho, hcj, hdj⟩ := id hj
 obtain ⟨ot, hot, _, nt, hdt⟩ := ht
 unfold nextOf
 refine wpAny_bind (wpAny_callSpecial?_slot (name := Str.ofString "__next__") hj.typeIs F.slot_tuple_iterator_next (wpAny_call_entry F.slot_tuple_iterator_next hj.typeIs F.entry_tuple_iterator_next ?_ (F.args_tuple_iterator_next_1 _)))
 show wpAny _ _ (field (.ref j) 0 >>= _) _ _ s
 refine wpAny_bind (wpAny_field ho hdj (x := .ref t) rfl ?_)
 show wpAny _ _ (if (Value.ref t == Value.none) = true then _ else _) _ _ s
 rw [if_neg (show ¬ ((Value.ref t == Value.none) = true) by intro z; cases z)]
 show wpAny _ _ (field (.ref j) 1 >>= _) _ _ s
 refine wpAny_bind (wpAny_field ho hdj (x := .int i 0) rfl ?_)
 show wpAny _ _ (seqItems? (.ref t) >>= _) _ _ s
 refine wpAny_bind (wpAny_seqItems hot hdt ?_)
 simp only [Int.toNat_natCast, hx]
 refine wpAny_bind (wpAny_setField ho hdj (by simp) (wpAny_pure ⟨x, rfl, wpAny_pure (hQ _ ⟨_, Heap.get?_update_self _ ho (Obj.isFreed_of_fields (Obj.data_mapFields hdj _)), (Obj.cls_mapFields ..).trans hcj, ?_⟩ (Heap.SameBut.update ..))⟩))
 rw [Obj.data_mapFields hdj]; simp [rawInt]
theorem Zwx {j t : Addr} {i : Nat} {its : Array Value} {Q : Value -> Shared -> Prop} (hh : A.handled = none) (hj : s.heap.IsTupleIter j t i) (ht : s.heap.IsTuple t its) (hx : its[i]? = none)
  (hE : ∀ h' e, Heap.ExtBut j s.heap h' → (∃ o, h'.get? e = some o ∧ o.cls = .type "StopIteration") → E (.ref e) { s with heap := h' }) : wpAny (model prog w) A (nextOf (.ref j)) Q E s := by
 obtain ⟨oj, ho, hcj, hdj⟩ := id hj
 obtain ⟨ot, hot, _, nt, hdt⟩ := ht
 unfold nextOf
 refine wpAny_bind (wpAny_callSpecial?_slot (name := Str.ofString "__next__") hj.typeIs F.slot_tuple_iterator_next (wpAny_call_entry F.slot_tuple_iterator_next hj.typeIs F.entry_tuple_iterator_next ?_ (F.args_tuple_iterator_next_1 _)))
 show wpAny _ _ (field (.ref j) 0 >>= _) _ _ s
 refine wpAny_bind (wpAny_field ho hdj (x := .ref t) rfl ?_)
 show wpAny _ _ (if (Value.ref t == Value.none) = true then _ else _) _ _ s
 rw [if_neg (show ¬ ((Value.ref t == Value.none) = true) by intro z; cases z)]
 show wpAny _ _ (field (.ref j) 1 >>= _) _ _ s
 refine wpAny_bind (wpAny_field ho hdj (x := .int i 0) rfl ?_)
 show wpAny _ _ (seqItems? (.ref t) >>= _) _ _ s
 refine wpAny_bind (wpAny_seqItems hot hdt ?_)
 simp only [Int.toNat_natCast, hx]
 refine wpAny_bind (wpAny_rule (wpAny_bind (wpAny_setField ho hdj (by simp) ?_)))
 show wpAny _ _ (newExc (.type "StopIteration") [] >>= _) _ _ _
 refine wpAny_bind ?_
 simp only [newExc, newTuple]
 refine wpAny_bind (wpAny_newObj_type ?_ (by size_fits))
 refine wpAny_bind (m := firstArgMember _ _) (wpAny_of_eq (a := Value.none) (by first | rfl | (simp only [firstArgMember]; rfl)) (wpAny_newObj_type ?_ (by size_fits)))
 simp only [raiseNew]
 refine wpAny_bind (wpAny_handled ?_)
 first | rw [show A.in1.handled = none from hh] | rw [hh]
 exact wpAny_bind (wpAny_pure (wpAny_throw (hE _ _ (((Heap.SameBut.update ..).extBut.push _).push _) ⟨_, Heap.get?_push_size _ rfl, rfl⟩)))
theorem Zrt {e j t : Addr} {i : Nat} {c : Int} {its : Array Value} {x old : Value} {Q : Option Value -> Shared -> Prop} (he : IsEnum s.heap e j c old) (hj : s.heap.IsTupleIter j t i) (ht : s.heap.IsTuple t its) (hx : its[i]? = some x) (hne : e ≠ j)
  (hQ : ∀ h' tk, IsEnumOut h' e j (c + 1) x s.heap.objs.size → h'.IsTupleIter j t (i + 1) → h'.get? s.heap.objs.size = some { cls := .type "tuple", data := .seq #[.int c tk, x] } → h'.objs.size = s.heap.objs.size + 1 →
   (∀ b o, b ≠ e -> b ≠ j -> s.heap.get? b = some o -> h'.get? b = some o) -> Q (some (.ref s.heap.objs.size)) { s with heap := h', toks := s.toks + 1 }) :
  wpAny (model prog w) A (pyNext (.ref e)) Q E s := by
 have hT : s.TypeIs (.ref e) "enumerate" := ⟨_, he, rfl⟩
 unfold pyNext
 refine wpAny_bind (wpAny_attempt (wpAny_callSpecial?_slot (name := Str.ofString "__next__") hT F.slot_enumerate_next (wpAny_call_entry F.slot_enumerate_next hT F.entry_enumerate_next ?_ (F.args_enumerate_next_1 _))))
 obtain ⟨hp, g, d, tk, os⟩ := s
 show wpAny _ _ (field (.ref e) 2 >>= _) _ _ _
 refine wpAny_bind (wpAny_field he rfl (x := .ref j) rfl (wpAny_bind (Zs5 hj ht hx fun h1 j1 s1 => ?_)))
 replace s1 : Heap.SameBut j hp h1 := s1
 have e1 : IsEnum h1 e j c old := (s1.2 e hne).trans he
 show wpAny _ _ (field (.ref e) 3 >>= _) _ _ ⟨h1, g, d, tk, os⟩
 refine wpAny_bind (wpAny_field e1 rfl (x := rawInt c) rfl ?_)
 show wpAny _ _ (field (.ref e) 4 >>= _) _ _ ⟨h1, g, d, tk, os⟩
 refine wpAny_bind (wpAny_field e1 rfl (x := .none) rfl ?_)
 show wpAny _ _ (mkInt c >>= _) _ _ ⟨h1, g, d, tk, os⟩
 refine wpAny_bind (wpAny_mkInt ?_)
 show wpAny _ _ (setField (.ref e) 3 (rawInt (c + 1)) >>= _) _ _ ⟨h1, g, d, tk + 1, os⟩
 refine wpAny_bind (wpAny_setField_rec e1 (by simp) fun h2 e2 s2 => ?_)
 replace s2 : Heap.SameBut e h1 h2 := s2
 replace e2 : IsEnum h2 e j (c + 1) old := e2
 show wpAny _ _ (setField (.ref e) 4 .none >>= _) _ _ ⟨h2, g, d, tk + 1, os⟩
 refine wpAny_bind (wpAny_setField_rec e2 (by simp) fun h3 e3 s3 => ?_)
 replace s3 : Heap.SameBut e h2 h3 := s3
 replace e3 : IsEnum h3 e j (c + 1) old := e3
 show wpAny _ _ (newTuple [.int c tk, x] >>= _) _ _ ⟨h3, g, d, tk + 1, os⟩
 refine wpAny_bind (wpAny_newTuple ?_)
 have e4 : IsEnum (h3.push { cls := .type "tuple", data := .seq #[.int c tk, x] }) e j (c + 1) old := Heap.get?_push_of_some _ e3
 generalize q4 : h3.push { cls := .type "tuple", data := .seq #[.int c tk, x] } = h4 at e4
 have zz : h3.objs.size = hp.objs.size := by rw [s3.1, s2.1, s1.1]
 have lt : e < hp.objs.size := Heap.lt_size he
 have t4 : h4.get? hp.objs.size = some { cls := .type "tuple", data := .seq #[.int c tk, x] } := by rw [← q4, ← zz]; exact Heap.get?_push_size _ rfl
 have z4 : h4.objs.size = hp.objs.size + 1 := by rw [← q4, Heap.size_push, zz]
 have k4 : ∀ b o, b ≠ e -> b ≠ j -> hp.get? b = some o -> h4.get? b = some o := fun b o n1 n2 q => by
  rw [← q4]; exact Heap.get?_push_of_some _ (s3.extBut b o n1 (s2.extBut b o n1 (s1.extBut b o n2 q)))
 have j4 : h4.IsTupleIter j t (i + 1) := by
  obtain ⟨o, ho, r⟩ := id j1
  exact ⟨o, by rw [← q4]; exact Heap.get?_push_of_some _ (s3.extBut j o (Ne.symm hne) (s2.extBut j o (Ne.symm hne) ho)), r⟩
 show wpAny _ _ (Builtin.SmallTypes.ownedTupleIsFree (.ref e) >>= _) _ _ ⟨h4, g, d, tk + 1, os⟩
 rw [zz]
 clear q4 e3 s3 e2 s2 e1 s1 j1 zz h3 h2 h1
 refine wpAny_bind ?_
 unfold Builtin.SmallTypes.ownedTupleIsFree
 refine wpAny_bind (wpAny_field e4 rfl (x := .none) rfl (wpAny_pure ?_))
 simp only [if_true]
 refine wpAny_bind (wpAny_rule (wpAny_bind (wpAny_field e4 rfl (x := old) rfl (wpAny_bind (wpAny_setField_rec e4 (by simp) fun h5 e5 s5 => ?_)))))
 replace s5 : Heap.SameBut e h4 h5 := s5
 replace e5 : IsEnum h5 e j (c + 1) x := e5
 show wpAny _ _ (Builtin.SmallTypes.ownedTupleHandOut (.ref e) (.ref hp.objs.size) >>= _) _ _ ⟨h5, g, d, tk + 1, os⟩
 refine wpAny_bind ?_
 unfold Builtin.SmallTypes.ownedTupleHandOut
 refine wpAny_bind (wpAny_setField_rec e5 (by simp) fun h6 e6 s6 => ?_)
 replace s6 : Heap.SameBut e h5 h6 := s6
 replace e6 : IsEnumOut h6 e j (c + 1) x hp.objs.size := e6
 refine wpAny_setField_rec e6 (by simp) fun h7 e7 s7 => ?_
 replace s7 : Heap.SameBut e h6 h7 := s7
 replace e7 : IsEnumOut h7 e j (c + 1) x hp.objs.size := e7
 have up : ∀ b o, b ≠ e -> h4.get? b = some o -> h7.get? b = some o := fun b o n q => s7.extBut b o n (s6.extBut b o n (s5.extBut b o n q))
 refine wpAny_bind (wpAny_letGo (wpAny_pure ⟨_, rfl, wpAny_pure (hQ h7 tk e7 ?_ (up _ _ (Nat.ne_of_gt lt) t4) (by rw [s7.1, s6.1, s5.1, z4]) fun b o n1 n2 q => up b o n1 (k4 b o n1 n2 q))⟩))
 obtain ⟨o, ho, r⟩ := id j4
 exact ⟨o, up j o (Ne.symm hne) ho, r⟩
theorem Zo4 {e j t : Addr} {i : Nat} {c : Int} {its : Array Value} {old : Value} {Q : Option Value -> Shared -> Prop} (hh : A.handled = none) (he : IsEnum s.heap e j c old) (hj : s.heap.IsTupleIter j t i) (ht : s.heap.IsTuple t its) (hx : its[i]? = none)
  (hQ : ∀ h', Heap.ExtBut j s.heap h' -> Q none { s with heap := h' }) : wpAny (model prog w) A (pyNext (.ref e)) Q E s := by
 have hT : s.TypeIs (.ref e) "enumerate" := ⟨_, he, rfl⟩
 unfold pyNext
 refine wpAny_bind (wpAny_attempt (wpAny_callSpecial?_slot (name := Str.ofString "__next__") hT F.slot_enumerate_next (wpAny_call_entry F.slot_enumerate_next hT F.entry_enumerate_next ?_ (F.args_enumerate_next_1 _))))
 show wpAny _ _ (field (.ref e) 2 >>= _) _ _ _
 refine wpAny_bind (wpAny_field he rfl (x := .ref j) rfl (wpAny_bind (Zwx hh hj ht hx fun h' z he' zz => ?_)))
 obtain ⟨o, ho, hc⟩ := zz
 exact wpAny_bind (wpAny_isInstance (T := "StopIteration") (b := true) ⟨o, ho, hc⟩ isSubtype_stop (wpAny_pure (hQ _ he')))
open AutoSeq1 (wpAny_loadPart') in
theorem Zq4 (t : Addr) (its : Array Value) (n : Nat) (dct : Option Addr) (sl : Array (Option Value)) :
  Meets (Builtin.«enumerate.__new__» ⟨[.type "enumerate", .ref t], []⟩) (fun _ R s => s.heap.get? t = some { cls := .type "tuple", dict := dct, data := .seq its n, slots := sl } ∧
   R (.ok (.ret (.ref (s.heap.push { cls := .type "tuple_iterator", data := .fields #[.ref t, .int 0 0] }).objs.size)))
    { s with heap := (s.heap.push { cls := .type "tuple_iterator", data := .fields #[.ref t, .int 0 0] }).push { cls := .type "enumerate", data := .fields #[.none, .bool false, .ref s.heap.objs.size, rawInt 0, .none, .none] } }) :=
 .of_wp fun prog w A R s h => by
  obtain ⟨hp, g, d, tk, os⟩ := s; obtain ⟨hl, h⟩ := h
  have hsub := sub_enumerate
  have hL : Heap.IsTuple (Shared.heap ⟨hp, g, d, tk, os⟩) t its := ⟨_, hl, rfl, n, rfl⟩
  wp_walk using wpAny_loadPart' hl
  refine wpAny_stack_any fun st => wpAny_pure ?_
  split
  ·rename_i k _ _ _ _ _
   cases (k == Value.type "enumerate") <;> (wp_walk using wpAny_loadPart' hl, wpAny_pyIter_tuple hL; exact ⟨_, rfl, h⟩)
  ·wp_walk using wpAny_loadPart' hl, wpAny_pyIter_tuple hL
   exact ⟨_, rfl, h⟩
theorem Zop {t : Addr} {its : Array Value} {Q : Value -> Shared -> Prop} (hL : s.heap.IsTuple t its)
  (h : ∀ h', IsEnum h' (s.heap.objs.size + 1) s.heap.objs.size 0 .none -> h'.IsTupleIter s.heap.objs.size t 0 -> h'.objs.size = s.heap.objs.size + 2 →
   (∀ b o, s.heap.get? b = some o -> h'.get? b = some o) -> Q (.ref (s.heap.objs.size + 1)) { s with heap := h' }) :
  wpAny (model prog w) A (call (.type "enumerate") [.ref t]) Q E s := by
 obtain ⟨⟨k, dct, dt, sl⟩, hl, hc, n, hd⟩ := hL
 replace hc : k = .type "tuple" := hc
 replace hd : dt = .seq its n := hd
 subst hc hd
 refine callType_new F.called_enumerate (by decide) (F.typeCall_enumerate_1 _) (F.newCall_enumerate_1 _) (fun obj => F.args_object_init_2 obj _) F.entry_enumerate_new (Zq4 t its n dct sl) ⟨hl, ?_⟩
 have hz : (s.heap.push { cls := .type "tuple_iterator", data := .fields #[.ref t, .int 0 0] }).objs.size = s.heap.objs.size + 1 := Heap.size_push ..
 show _ ∧ _
 rw [hz]
 have he : IsEnum ((s.heap.push { cls := .type "tuple_iterator", data := .fields #[.ref t, .int 0 0] }).push { cls := .type "enumerate", data := .fields #[.none, .bool false, .ref s.heap.objs.size, rawInt 0, .none, .none] }) (s.heap.objs.size + 1) s.heap.objs.size 0 .none := by
  have q := Heap.get?_push_size (s.heap.push { cls := .type "tuple_iterator", data := .fields #[.ref t, .int 0 0] }) (o := { cls := .type "enumerate", data := .fields #[.none, .bool false, .ref s.heap.objs.size, rawInt 0, .none, .none] }) rfl
  rw [hz] at q; exact q
 exact ⟨⟨_, he, rfl⟩, h _ he ⟨_, Heap.get?_push_of_some _ (Heap.get?_push_size _ rfl), rfl, rfl⟩ (by rw [Heap.size_push, hz]) fun b o x => Heap.get?_push_of_some _ (Heap.get?_push_of_some _ x)⟩
end
noncomputable def Zx9 (K : PySem.W.Frag) (c : Int) (a : Addr) : It :=
 ⟨fun i H => ∃ xs x, SqT K H a xs ∧ xs[i]? = some x, fun i H v H' => ∃ p x, H p = none ∧ v = .ref p ∧ H' = upd H p (.tup [.int (c + i), x]) ∧ ∀ xs, SqT K H a xs -> xs[i]? = some x, fun i H => ∃ xs, SqT K H a xs ∧ xs.length ≤ i⟩
theorem Zin {P : Program} {w : World} {K : PySem.W.Frag} {es : List Expr} {k : Nat} {pos : Pos} (a e j : Addr) (c : Int) (hne : e ≠ j) : Turn P w K (.Tuple es k pos) (Zx9 K c a) [e, j] e (fun i h => ∃ old, IsEnum h e j (c + i) old ∧ h.IsTupleIter j a i) where
 mem := by simp
 obj := fun i h st b hb => by
  obtain ⟨old, he, o, ho, hc, hd⟩ := st
  rcases List.mem_cons.mp hb with rfl | hb
  ·exact ⟨_, he, fun v z => by cases z⟩
  ·have : b = j := by simpa using hb
   subst this
   exact ⟨o, ho, fun v z => by rw [hd] at z; cases z⟩
 keep := fun i h h' st kk => by
  obtain ⟨old, he, o, ho, r⟩ := st
  exact ⟨old, kk e (by simp) _ he, o, kk j (by simp) o ho, r⟩
 item := by
  intro X hP hw hK hc i pins s σ H E I hf st hg
  subst hP hw hK
  obtain ⟨xs, x, hq, hx⟩ := hg
  obtain ⟨old, he, hj⟩ := st
  obtain ⟨its, rv, p, hz⟩ := I.tuple hq
  obtain ⟨u, hu, ru⟩ := rv.get hx
  have fe := hf e (by simp)
  have fj := hf j (by simp)
  refine Zrt he hj (show s.heap.IsTuple a its.toArray from p) (x := u) (by simpa using hu) hne fun h' tk eo j' t' z' kk => ?_
  refine ⟨_, rfl, wpAny_letOwnedTupleGo_enum (s := { s with heap := h', toks := s.toks + 1 }) eo fun h2 e2 s2 => ?_⟩
  replace s2 : Heap.SameBut e h' h2 := s2
  have le : e < s.heap.objs.size := Heap.lt_size he
  have ne2 : s.heap.objs.size ≠ e := Nat.ne_of_gt le
  -- the iterator's two records have turned, the pair is new
  have t2 : h2.get? s.heap.objs.size = some { cls := .type "tuple", data := .seq #[.int (c + i) tk, u] } := s2.extBut _ _ ne2 t'
  have hp0 : H s.heap.objs.size = none := I.hok.fresh (Nat.le_refl _)
  have up : ∀ b o, b ∉ [e, j] -> s.heap.get? b = some o -> h2.get? b = some o := fun b o hb q =>
   s2.extBut b o (fun z => hb (by simp [z])) (kk b o (fun z => hb (by simp [z])) (fun z => hb (by simp [z])) q)
  have I2 : Inv X pins σ (upd H s.heap.objs.size (.tup [.int (c + i), x])) { s with heap := h2, toks := s.toks + 1 } := by
   refine I.step (g' := s.gens) (d' := s.drawn) (t' := s.toks + 1) (ch := [e, j]) (fun b hb => ?_) (fun b o _ _ hb q n => up b o hb q) (fun b o _ _ hb q n => ⟨o.slots, up b o hb q⟩) (fun b o _ q n => ?_) (fun b o hb q => ⟨o, up b o hb q⟩) (fun b ys q => ?_) (fun b o y q => ?_) (fun b ps q => ⟨#[], ?_⟩) (fun m hm => ?_) (fun b o q => ?_) I.bare
   ·have := hf b hb; exact ⟨this.2.2.2.1, this.2.1, this.2.2.2.2.1, this.2.2.2.2.2⟩
   ·rw [Zak (Nat.ne_of_lt (Heap.lt_size q))]; exact n
   ·rw [Zak (Zam q hp0)]; exact q
   ·rw [Zak (Zam q hp0)]; exact q
   ·rw [Zak (Zam q hp0), q]; simp
   ·obtain ⟨o, es', ep, ho, r⟩ := hm
    exact ⟨o, es', ep, s2.extBut _ o (Ne.symm fe.2.1) (kk _ o (Ne.symm fe.2.1) (Ne.symm fj.2.1) ho), r⟩
   ·by_cases hb : b = s.heap.objs.size
    ·subst hb
     rw [Zaq] at q
     cases q
     exact ⟨(by show 2 ≤ sizeLine; decide), [.int (c + i) tk, u], .cons ⟨tk, rfl⟩ (.cons ru .nil), _, t2, rfl, ⟨_, rfl⟩, rfl⟩
    ·rw [Zak hb] at q
     refine (I.hok b o q).stay (fun d v hd z => up d v (fun hm => ?_) z) (fun d z => by rw [Zak (Zam z hp0)]; exact z) fun d ys z => by rw [Zak (Zam z hp0)]; exact z
     have : H d ≠ none := by
      rcases hd with rfl | hd
      ·rw [q]; simp
      ·rw [hd]; simp
     exact this (hf d hm).1
  refine ⟨.ref s.heap.objs.size, _, I2, rfl, ⟨_, x, hp0, rfl, rfl, fun ys hy => by rw [I.tuple_inj hy hq]; exact hx⟩, ?_, fun b hb => ?_⟩
  ·obtain ⟨o, ho, r⟩ := id j'
   have ec : c + ((i + 1 : Nat) : Int) = c + (i : Int) + 1 := by push_cast; omega
   exact ⟨u, by rw [ec]; exact e2, o, s2.extBut j o (Ne.symm hne) ho, r⟩
  ·have hb2 : b ≠ s.heap.objs.size := by
    rcases List.mem_cons.mp hb with rfl | hb
    ·exact Nat.ne_of_lt le
    ·have : b = j := by simpa using hb
     subst this
     obtain ⟨o, ho, _⟩ := id hj
     exact Nat.ne_of_lt (Heap.lt_size ho)
   rw [Zak hb2]; exact (hf b hb).1
 done := by
  intro X hP hw hK hc i pins s σ H E I hf st hg
  subst hP hw hK
  obtain ⟨xs, hq, hx⟩ := hg
  obtain ⟨old, he, hj⟩ := st
  obtain ⟨its, rv, p, hz⟩ := I.tuple hq
  obtain ⟨f0, f1, f2, f3, f4, f5⟩ := hf j (by simp)
  have hl := rv.length
  exact Zo4 (I.ok.hd hc) he hj (show s.heap.IsTuple a its.toArray from p) (by simp; omega) fun h' eb => ⟨rfl, I.turned (t' := s.toks) (fun b o hb q => eb b o hb q) f0 f1 f3 f4 f5⟩
 self := fun _ _ _ _ _ st h => by
  obtain ⟨old, he, _⟩ := st
  exact wpAny_pyIter_enum he h
section
variable {X : Cx}
noncomputable def Zex (c : Int) : List D -> List D
 | [] => []
 | x :: r => .tup [.int c, x] :: Zex (c + 1) r
theorem Zhh : ∀ (xs : List D) (c : Int), (Zex c xs).length = xs.length
 | [], _ => rfl
 | x :: r, c => by simp [Zex, Zhh r]
theorem Zlt : ∀ {xs : List D} {c : Int} {i : Nat} {d : D}, (Zex c xs)[i]? = some d -> ∃ x, xs[i]? = some x ∧ d = .tup [.int (c + i), x]
 | [], c, i, d, h => by simp [Zex] at h
 | x :: r, c, 0, d, h => by simp [Zex] at h; exact ⟨x, rfl, by rw [← h]; simp⟩
 | x :: r, c, i + 1, d, h => by
  simp only [Zex, List.getElem?_cons_succ] at h
  obtain ⟨y, h1, h2⟩ := Zlt h
  refine ⟨y, by simpa using h1, ?_⟩
  rw [h2]
  have : c + 1 + (i : Int) = c + ((i + 1 : Nat) : Int) := by push_cast; omega
  rw [this]
theorem Zm8 {K : PySem.W.Frag} {H0 : Hp} {ι0 : List Addr} {a : Addr} {c : Int} {xs : List D} {vs : List V} (hS : SqT K H0 a vs) (P : Paired (Rep K H0 ι0) xs vs)
  (inj : ∀ (i : Nat) (H : Hp) (x : V), (∀ ys, SqT K H a ys -> ys[i]? = some x) -> SqT K H a vs -> vs[i]? = some x) : ItRep K (Zx9 K c a) (Zex c xs) [] H0 ι0 := by
 refine ⟨fun i H2 ι2 Hd2 l2 h2 _ hi => ?_, fun i H2 ι2 Hd2 d v H3 l2 h2 _ hd y => ?_, fun i H2 ι2 Hd2 l2 h2 _ hi => ⟨vs, l2.tup a vs hS, by rw [← Prd.len P, ← Zhh xs c]; exact hi⟩⟩
 ·exact ⟨vs, vs[i]'(by rw [← Prd.len P, ← Zhh xs c]; exact hi), l2.tup a vs hS, by simp⟩
 ·obtain ⟨p, x, hp, rfl, rfl, y⟩ := y
  obtain ⟨x', hx', rfl⟩ := Zlt hd
  obtain ⟨u, hu, ru⟩ := Prd.get P hx'
  have := y vs (l2.tup a vs hS)
  rw [hu] at this
  cases this
  refine ⟨ι2, Le.fresh hp _, h2.tup hp _, Zbd.mpr ⟨p, _, rfl, SqT.of Zaq, .cons (by simp) (.cons ((ru.mono l2).mono (Le.fresh hp _)) .nil)⟩⟩
noncomputable def Zte (f : AF) : ItF := fun σ H => (f σ H).bind fun p => match p.1 with
 | [.tup xs] => some ((Zex 0 xs, []), p.2)
 | _ => none
theorem Zsy {es : List Expr} {k : Nat} {tp p pos : Pos} {a : Expr} {f : AF} (hg : Gl X "enumerate") (hm : X.mg "enumerate" = none) (ha : PAf X [a] f) (hs : starEach [a] X.env = [(false, eval a X.env)] := by rfl) : PIf X (.Tuple es k tp) (.Call (.Name "enumerate" p) [a] [] pos) (Zte f) := by
 rintro pins s σ H R I ⟨ι, σd, Hd, xs, own, Hd', sr, hr, e, q⟩
 obtain ⟨⟨ds, H1⟩, e1, e⟩ := Zo e
 dsimp only at e
 split at e
 ·rename_i ys
  cases e
  refine Call_ (Zfw I hg hm boot_enumerate (PyProof.Rows.callWith_type1 (thn (ha pos pins s σ H (fun vs H' => ∃ a ws, vs = [.ref a] ∧ SqT X.K H' a ws ∧ ∀ (J : It) (H2 : Hp), H2 = H' -> J = Zx9 X.K 0 a -> R J H2) I ⟨ι, σd, Hd, _, _, sr, hr, e1, fun vs H' ι' l h P => ?_⟩) fun us s1 ⟨vs, H2, I2, r2, q2⟩ => ?_) hs rfl))
  ·obtain ⟨v, rfl, r⟩ := Zj7 P
   obtain ⟨ad, ws, rfl, hS, P2⟩ := Zbd.mp r
   refine ⟨ad, ws, rfl, hS, fun J H2 e2 e3 => ?_⟩
   subst e2 e3
   exact q _ _ ι' l h (Zm8 hS P2 fun i H x y h => y ws h)
  ·obtain ⟨ad, ws, rfl, hS, q2⟩ := q2
   obtain ⟨u, rfl, ru⟩ := Zg0 r2
   cases ru
   obtain ⟨its, rv, p, hz⟩ := I2.tuple hS
   refine Zop (show s1.heap.IsTuple ad its.toArray from p) fun h' he hj z' kk => ?_
   have I3 : Inv X pins σ H2 { s1 with heap := h' } := I2.kept (t' := s1.toks) kk
   refine wpAny_pyIter_enum (s := { s1 with heap := h' }) he ?_
   have ne : s1.heap.objs.size + 1 ≠ s1.heap.objs.size := Nat.succ_ne_self _
   refine ⟨s1.heap.objs.size + 1, [s1.heap.objs.size + 1, s1.heap.objs.size], _, Zx9 X.K 0 ad, H2, rfl, I3, Zin ad _ _ 0 ne, ⟨.none, by simpa using he, hj⟩, fun b hb => ?_, q2 _ _ rfl rfl⟩
   have : s1.heap.objs.size ≤ b := by
    rcases List.mem_cons.mp hb with rfl | hb
    ·exact Nat.le_succ _
    ·have : b = s1.heap.objs.size := by simpa using hb
     rw [this]; exact Nat.le_refl _
   have fp := I2.fpOk (b := b) (H' := H2) this (I2.hok.fresh this)
   exact fp
 ·cases e
end
section
variable {X : Cx}
noncomputable def tRng2 (ta : TA) : TE := fun σ H Q => ta σ H fun vs H1 => ∃ i j : Int, vs = [.int i, .int j] ∧ ∀ p, H1 p = none -> Q (.ref p) (upd H1 p (.rng i j))
theorem Zv6 {a b : Expr} {ta : TA} {p pos : Pos} (hg : Gl X "range") (hm : X.mg "range" = none) (ha : PA X [a, b] ta) (hs : starEach [a, b] X.env = [(false, eval a X.env), (false, eval b X.env)] := by rfl) (hs2 : starEach [b] X.env = [(false, eval b X.env)] := by rfl) :
  PE X (.Call (.Name "range" p) [a, b] [] pos) (tRng2 ta) := by
 intro pins s σ H Q I h
 refine Call_ (Zfw I hg hm boot_range (PyProof.Rows.callWith_type1 (thn (ha pos pins s σ H _ I h) fun us s1 ⟨vs, H1, I1, r1, q1⟩ => ?_) (by rw [hs, hs2]) (by rw [hs2]; rfl)))
 obtain ⟨i, j, rfl, q⟩ := q1
 obtain ⟨u1, u2, rfl, ru1, ru2⟩ := Zp5 r1
 obtain ⟨t1, rfl⟩ := ru1
 obtain ⟨t2, rfl⟩ := ru2
 refine call_range_2 ?_
 exact ⟨.ref s1.heap.objs.size, _, I1.laid (t' := s1.toks + 1) (o := .rng i j) (fun b o e => Heap.get?_push_of_some _ e) (Nat.le_refl _) ⟨_, _, _, Heap.get?_push_size _ rfl⟩, rfl, q _ (I1.hok.fresh (Nat.le_refl _))⟩
theorem Zuq {α β : Type} {F : α -> β -> Prop} : ∀ {xs : List α} {us : List β}, xs.length = us.length -> (∀ (i : Nat) x u, xs[i]? = some x -> us[i]? = some u -> F x u) -> Paired F xs us
 | [], [], _, _ => .nil
 | [], _ :: _, h, _ => by simp at h
 | _ :: _, [], h, _ => by simp at h
 | x :: xs, u :: us, h, f => .cons (f 0 x u rfl rfl) (Zuq (by simpa using h) fun i y v h1 h2 => f (i + 1) y v (by simpa using h1) (by simpa using h2))
noncomputable def Zlu (lo : Int) (n : Nat) : List V := (List.range n).map fun k : Nat => .int (lo + (k : Int))
theorem Zjq (hc : X.calm = true) : Zfl X (.type "list") (fun xs H Q => ∃ p i j, xs = [.ref p] ∧ H p = some (.rng i j) ∧ Zb3 i ∧ Zb3 j ∧ (j - i).toNat ≤ 1000000 ∧ ∀ l, H l = none → Q (.ref l) (upd H l (.lst (Zlu i (j - i).toNat)))) := by
 intro pins s σ H xs us Q I r h
 obtain ⟨p, i, j, rfl, hH, hi, hj, hn, q⟩ := h
 obtain ⟨u, rfl, rx⟩ := Zg0 r
 cases rx
 obtain ⟨t, u, v, hr⟩ := (show Zcr X.prog X.w H s.heap p (.rng i j) from I.hok p _ hH)
 have e : Builtin.Range.rangeSize i j 1 = ((j - i).toNat : Nat) := by rw [rangeSize_one]; split <;> omega
 refine call_list_range (I.ok.hd hc) hr (small_one hi.1 hi.2 hj.1 hj.2) e (by omega) fun h' tk acc' c' kp hS hacc => ?_
 have sz : sizeLine = 16777216 := sizeLine_eq
 have vals : Zbf (Zlu i (j - i).toNat) acc'.toList := by
  refine Zuq (by simp [Zlu, hacc.1]) fun k x u h1 h2 => ?_
  unfold Zlu at h1
  rw [List.getElem?_map] at h1
  obtain ⟨k', h3, rfl⟩ := Zm h1
  rw [List.getElem?_eq_some_iff] at h3
  obtain ⟨_, h3⟩ := h3
  simp at h3
  subst h3
  obtain ⟨t, e⟩ := hacc.2 k u (by simpa using h2)
  exact ⟨t, by rw [e, Int.mul_one]⟩
 exact ⟨.ref s.heap.objs.size, _, I.laid (t' := tk) (o := .lst (Zlu i (j - i).toNat)) kp (Nat.le_refl _) ⟨by simp [Zlu]; omega, acc'.toList, c', vals, by simpa using hS⟩, rfl, q _ (I.hok.fresh (Nat.le_refl _))⟩
noncomputable def eLR2 (f : AF) : EF := fun σ H => (f σ H).bind fun p => match p.1 with
 | [.int i, .int j] => if Zb3 i ∧ Zb3 j ∧ (j - i).toNat ≤ 1000000 then some (.ref p.2.length, p.2 ++ [.lst (Za2 i (j - i).toNat)]) else none
 | _ => none
theorem Zov {a b : Expr} {f : AF} {p p2 pos pos2 : Pos} (hc : X.calm = true) (hg : Gl X "list") (hm : X.mg "list" = none) (hg2 : Gl X "range") (hm2 : X.mg "range" = none) (ha : PAf X [a, b] f)
  (hs : starEach [a, b] X.env = [(false, eval a X.env), (false, eval b X.env)] := by rfl) (hs2 : starEach [b] X.env = [(false, eval b X.env)] := by rfl)
  (he : starEach [Expr.Call (.Name "range" p2) [a, b] [] pos2] X.env = (false, eval (Expr.Call (.Name "range" p2) [a, b] [] pos2) X.env) :: starEach [] X.env := by rfl)
  (hpl : (backTo pos (starEach [] X.env)).any (·.1) = false := by rfl) : PEf X (.Call (.Name "list" p) [.Call (.Name "range" p2) [a, b] [] pos2] [] pos) (eLR2 f) := by
 refine PEi (Zki (Zjq hc) hg hm (by decide +kernel) (Zdx (Zv6 hg2 hm2 ha hs hs2) Zim he) (by decide) (by decide) he hpl) fun σ H Q zz => ?_
 obtain ⟨ι, σd, Hd, d, Hd', s, hr, e, q⟩ := zz
 obtain ⟨⟨ds, H1⟩, e1, e⟩ := Zo e
 dsimp only at e
 split at e
 ·rename_i i j
  split at e
  ·rename_i hk
   cases e
   refine ⟨ι, σd, Hd, _, _, s, hr, e1, fun vs H' ι' l h P => ?_⟩
   obtain ⟨v, v', rfl, r, r'⟩ := Zz7 P
   simp at r r'
   subst r r'
   refine ⟨i, j, rfl, fun r hr' => ⟨r, i, j, rfl, Zaq, hk.1, hk.2.1, hk.2.2, fun lx hl => ?_⟩⟩
   have h2 := h.tup hr' (.rng i j)
   have sz : sizeLine = 16777216 := sizeLine_eq
   have P2 : Paired (Rep X.K (upd H' r (.rng i j)) ι') (Za2 i (j - i).toNat) (Zlu i (j - i).toNat) := by
    unfold Za2 Zlu
    generalize (List.range (j - i).toNat) = ks
    induction ks with
    | nil => exact .nil
    | cons k ks ih => exact .cons (by simp) ih
   refine (Zff h2 P2 (show mkL (Za2 i (j - i).toNat) H1 = some _ by unfold mkL; rw [if_pos (by simp [Za2]; omega)]) fun v2 H2 ι2 l2 h2 r2 => q v2 H2 ι2 ((l.trans (Le.fresh hr' _)).trans l2) h2 r2).2 _ hl
  ·cases e
 ·cases e
end
structure Fn (P : Program) (w : World) (K : PySem.W.Frag) (mg : Str -> Option Value) (base : Heap) (k : Nat) (x : Str) (ps : List Str) (F : FF) : Prop where
 ex : ∃ f fd, FnOk P w K mg base CX0 k f fd ps (spF K ps.length F) ∧ Zfd K fd ps [] ∧ PySem.W.keepIn K (.ref f) = true ∧ mg x = some (.ref f) ∧ ∃ (oc : Value) (od : Option Addr) (osl : Array (Option Value)), K.lookup f = some ⟨oc, od, .func fd, osl⟩
theorem Zaw {X : Cx} {k n : Nat} {ps : List Str} {x : Str} {p pos : Pos} {F : FF} {fa : AF} {e : Expr} {es : List Expr} (G : Fn X.prog X.w X.K X.mg X.base k x ps F) (hr : Room k X.A) (hg : Gl X x)
  (ha : PAf X (e :: es) fa) (hdb : (x == ("__debug__" : Str)) = false := by decide) (he : starEach (e :: es) X.env = (false, eval e X.env) :: starEach es X.env := by exact Zav rfl) (hpl : (backTo pos (starEach es X.env)).any (·.1) = false := by exact Zbx rfl) (hn : ps.length = n := by rfl) :
  PEf X (.Call (.Name x p) (e :: es) [] pos) (Zai n F fa) := by
 subst hn
 obtain ⟨f, fd, G1, hb, hk, hm, _⟩ := G.ex
 exact Zsr G1 hr hg hm hk hb ha hdb he hpl
noncomputable def Tf (K : PySem.W.Frag) (mg : Str -> Option Value) (x : Str) (st : Stmt) : Prop := ∃ f fd, Fun K x x st f fd ∧ mg x = some (.ref f)
theorem us0 {us : List Value} (h : us.length = 0) : us = [] := List.length_eq_zero_iff.mp h
theorem us1 {us : List Value} (h : us.length = 1) : ∃ a, us = [a] := by
 obtain ⟨a, r⟩ := List.exists_cons_of_length_eq_add_one h
 obtain ⟨t, rfl⟩ := r
 rw [us0 (us := t) (by simpa using h)]
 exact ⟨a, rfl⟩
theorem us2 {us : List Value} (h : us.length = 2) : ∃ a b, us = [a, b] := by
 obtain ⟨a, t, rfl⟩ := List.exists_cons_of_length_eq_add_one h
 obtain ⟨b, rfl⟩ := us1 (us := t) (by simpa using h)
 exact ⟨a, b, rfl⟩
theorem us3 {us : List Value} (h : us.length = 3) : ∃ a b c, us = [a, b, c] := by
 obtain ⟨a, t, rfl⟩ := List.exists_cons_of_length_eq_add_one h
 obtain ⟨b, c, rfl⟩ := us2 (us := t) (by simpa using h)
 exact ⟨a, b, c, rfl⟩
theorem us4 {us : List Value} (h : us.length = 4) : ∃ a b c d, us = [a, b, c, d] := by
 obtain ⟨a, t, rfl⟩ := List.exists_cons_of_length_eq_add_one h
 obtain ⟨b, c, d, rfl⟩ := us3 (us := t) (by simpa using h)
 exact ⟨a, b, c, d, rfl⟩
theorem us5 {us : List Value} (h : us.length = 5) : ∃ a b c d e, us = [a, b, c, d, e] := by
 obtain ⟨a, t, rfl⟩ := List.exists_cons_of_length_eq_add_one h
 obtain ⟨b, c, d, e, rfl⟩ := us4 (us := t) (by simpa using h)
 exact ⟨a, b, c, d, e, rfl⟩
theorem tf_mk {K : PySem.W.Frag} {h : Heap} {mg : Str -> Option Value} {x : Str} {st : Stmt} {f : Addr} {oc : Value} {od an : Option Addr} {osl : Array (Option Value)} {kV doc pm cdv ct : Value} (X : K.In h) (G : h.Ns mainGlobals mg)
  (a : PySem.W.nsIn K mainGlobals x = some (some (.ref f))) (l : K.lookup f = some ⟨oc, od, .func (PySem.W.fnOf x x (Zcs st) (Zbc st) (Zad st) .none kV doc pm an cdv ct), osl⟩)
  (c : PySem.W.codeIn K cdv x = true) (k : PySem.W.keepIn K (.ref f) = true) : Tf K mg x st := ⟨f, _, Zpq l c k, PySem.W.mg_of X G a⟩
theorem Zbr {P : Program} {w : World} {K : PySem.W.Frag} {mg : Str -> Option Value} {base : Heap} {x : Str} {st : Stmt} {N ps : List Str} {k : Nat} {b : SF} (T : Tf K mg x st) (S : FnScope N ps (Zad st))
  (hbd : ∀ (kV doc pm : Value) (an : Option Addr) (cdv ct : Value) (us : List Value), us.length = ps.length -> bindArgs (PySem.W.fnOf x x (Zcs st) (Zbc st) (Zad st) .none kV doc pm an cdv ct) ⟨us, []⟩ = pure (ps.zip us))
  (hb : ∀ (f : Addr) (cdv : Value) (A : Around) (outer : List Env) (s : Shared) (H : Hp) (E : XK), Room k (A.deeper (envOfC x (Zad st) s.heap.objs.size f cdv)) →
   Zna (Zey CX0 P w K mg base N x (Zad st) f cdv A outer s H E).nox (Zbc st) b) : Fn P w K mg base (k + 1) x ps (Za5 ps.length N.length b) := by
 obtain ⟨f, fd, F, hm⟩ := T
 refine ⟨f, fd, fn_f F S fun cdv A outer s H E hr => hb f cdv A outer s H E hr, F.binds hbd, F.kp, hm, ?_⟩
 obtain ⟨oc, od, kV, doc, pm, an, cdv, ct, osl, rfl, lk, hcd⟩ := F.ex
 exact ⟨oc, od, osl, lk⟩
noncomputable def blkB (sc scope : Scope) (N : List Str) (x : Str) (cn : List Str) (ci : List Nat) : Bool :=
 (scope.kind == .function) && scope.names.all (fun y => y.2 != .cell) && scope.names.all (fun y => y.2 != .local || scope.names.lookup y.1 == some .local) && (scope.names.lookup x == some .local) &&
 scope.names.all (fun y => y.2 != .free || sc.names.lookup y.1 == some .cell) && decide (x :: cn).Nodup && (ci.length == cn.length) &&
 (cn.zip ci).all (fun p => N[p.2]? == some p.1 && scope.names.lookup p.1 == some .free && sc.names.lookup p.1 == some .cell)
theorem Zd0 {P : Program} {w : World} {K : PySem.W.Frag} {mg : Str -> Option Value} {base : Heap} {N : List Str} {qual : Str} {sc scope : Scope} {f : Addr} {cdv : Value} {A : Around} {outer : List Env} {s : Shared} {H : Hp} {E : XK} {x : Str} {cn : List Str} {ci : List Nat}
  (h : blkB sc scope N x cn ci = true) : BlkOk (Zey CX0 P w K mg base N qual sc f cdv A outer s H E).nox scope x cn ci := by
 unfold blkB at h
 simp only [Bool.and_eq_true, List.all_eq_true, Bool.or_eq_true, bne_iff_ne, ne_eq, beq_iff_eq, decide_eq_true_eq] at h
 obtain ⟨⟨⟨⟨⟨⟨⟨h1, h2⟩, h3⟩, h4⟩, h5⟩, h6⟩, h7⟩, h8⟩ := h
 refine ⟨h1, fun y hy => h2 y hy, fun y hy hl => (h3 y hy).resolve_left fun z => z hl, h4, fun y hy hf => ?_, h6, h7, fun j y hj => ?_⟩
 ·have := (h5 y hy).resolve_left fun z => z hf
  obtain ⟨c, hc⟩ := Zg8 (n := s.heap.objs.size + 1) this
  exact Option.isSome_iff_exists.mpr ⟨c, hc⟩
 ·have hl : j < ci.length := by rw [h7]; exact (List.getElem?_eq_some_iff.mp hj).1
  have hm : (y, ci[j]) ∈ cn.zip ci := by
   refine List.mem_iff_getElem?.mpr ⟨j, ?_⟩
   rw [List.getElem?_zip_eq_some]
   exact ⟨hj, by simp [hl]⟩
  obtain ⟨⟨k1, k2⟩, k3⟩ := h8 _ hm
  exact ⟨ci[j], by simp [hl], k1, k2, .inl k3⟩
theorem Zus : bootBuiltins "len" = some (.builtin "len") := by decide +kernel
theorem Zz5 : bootBuiltins "abs" = some (.builtin "abs") := by decide +kernel
theorem Yab : bootBuiltins "min" = some (.builtin "min") := by decide +kernel
theorem Zy2 : bootBuiltins "max" = some (.builtin "max") := by decide +kernel
theorem Zrj : bootBuiltins "sorted" = some (.builtin "sorted") := by decide +kernel
theorem Zx1 : bootBuiltins "repr" = some (.builtin "repr") := by decide +kernel
theorem Yay : bootBuiltins "int" = some (.type "int") := by decide +kernel
theorem Zt9 : bootBuiltins "tuple" = some (.type "tuple") := by decide +kernel
theorem Zxe : bootBuiltins "list" = some (.type "list") := by decide +kernel
section
variable {X : Cx} {tg : Expr}
theorem Zvh {K : PySem.W.Frag} {H0 : Hp} {ι0 : List Addr} {a : Addr} {xs : List D} {vs : List V} (hS : SqT K H0 a vs) (P : Paired (Rep K H0 ι0) xs vs) : ItRep K (Itt K a) xs [] H0 ι0 := by
 refine ⟨fun i H2 ι2 Hd2 l2 h2 _ hi => ?_, fun i H2 ι2 Hd2 d x H3 l2 h2 _ hd y => ?_, fun i H2 ι2 Hd2 l2 h2 _ hi => ⟨vs, l2.tup a vs hS, by rw [← Prd.len P]; exact hi⟩⟩
 ·exact ⟨vs, vs[i]'(by rw [← Prd.len P]; exact hi), l2.tup a vs hS, by simp⟩
 ·obtain ⟨rfl, y⟩ := y
  obtain ⟨u, hu, ru⟩ := Prd.get P hd
  have := y vs (l2.tup a vs hS)
  rw [hu] at this
  cases this
  exact ⟨ι2, Le.refl, h2, ru.mono l2⟩
theorem Zy9 {K : PySem.W.Frag} {H0 : Hp} {ι0 : List Addr} {a : Addr} {xs : List D} {vs : List V} (hS : FzL K H0 a vs) (P : Paired (Rep K H0 ι0) xs vs) : ItRep K (Itl K a) xs [] H0 ι0 := by
 refine ⟨fun i H2 ι2 Hd2 l2 h2 _ hi => ?_, fun i H2 ι2 Hd2 d x H3 l2 h2 _ hd y => ?_, fun i H2 ι2 Hd2 l2 h2 _ hi => ⟨vs, (l2.fz a vs hS).sq, by rw [← Prd.len P]; exact hi⟩⟩
 ·exact ⟨vs, vs[i]'(by rw [← Prd.len P]; exact hi), (l2.fz a vs hS).sq, by simp⟩
 ·obtain ⟨rfl, y⟩ := y
  obtain ⟨u, hu, ru⟩ := Prd.get P hd
  have := y vs (l2.fz a vs hS).sq
  rw [hu] at this
  cases this
  exact ⟨ι2, Le.refl, h2, ru.mono l2⟩
theorem Zxk {K : PySem.W.Frag} {H0 : Hp} {ι0 : List Addr} {a : Addr} {n : Nat} {xs : List D} (ha : ι0[n]? = some a) : ItRep K (Itl K a) xs [(n, .lst xs)] H0 ι0 := by
 have now : ∀ {H2 : Hp} {ι2 : List Addr} {Hd2 : HD}, Le K H0 ι0 H2 ι2 -> HRep K H2 ι2 Hd2 -> Zcj [(n, DO.lst xs)] Hd2 -> ∃ ws, H2 a = some (.lst ws) ∧ Paired (Rep K H2 ι2) xs ws := fun {H2 ι2 Hd2} l2 h2 ok =>
  h2.obj n a _ (l2.get ha) (ok (n, .lst xs) (by simp))
 refine ⟨fun i H2 ι2 Hd2 l2 h2 ok hi => ?_, fun i H2 ι2 Hd2 d x H3 l2 h2 ok hd y => ?_, fun i H2 ι2 Hd2 l2 h2 ok hi => ?_⟩
 ·obtain ⟨ws, h3, P3⟩ := now l2 h2 ok
  exact ⟨ws, ws[i]'(by rw [← Prd.len P3]; exact hi), SqL.of h3, by simp⟩
 ·obtain ⟨ws, h3, P3⟩ := now l2 h2 ok
  obtain ⟨rfl, y⟩ := y
  obtain ⟨u, hu, ru⟩ := Prd.get P3 hd
  have := y ws (SqL.of h3)
  rw [hu] at this
  cases this
  exact ⟨ι2, Le.refl, h2, ru⟩
 ·obtain ⟨ws, h3, P3⟩ := now l2 h2 ok
  exact ⟨ws, SqL.of h3, by rw [← Prd.len P3]; exact hi⟩
noncomputable def iSq (f : EF) : ItF := fun σ H => (f σ H).bind fun p => (Zgn p.1 p.2).map fun r => (r, p.2)
theorem Ze6 {l : Expr} {f : EF} (hl : PEf X l f) : PIf X tg l (iSq f) := by
 rintro pins s σ H R I ⟨ι, σd, Hd, xs, own, Hd', sr, hr, e, q⟩
 obtain ⟨⟨d, H1⟩, e1, e⟩ := Zo e
 obtain ⟨⟨ys, ow⟩, e2, e⟩ := Zm e
 obtain ⟨e3, rfl⟩ := Prod.mk.inj e
 obtain ⟨rfl, rfl⟩ := Prod.mk.inj e3
 refine thn (hl pins s σ H (fun v H1 => ∃ a, v = .ref a ∧ (((∃ xs, SqL X.K H1 a xs) ∧ R (Itl X.K a) H1) ∨ ((∃ xs, SqT X.K H1 a xs) ∧ R (Itt X.K a) H1))) I ⟨ι, σd, Hd, _, _, sr, hr, e1, fun v H' ι' l h r => ?_⟩) fun v s1 ⟨x, H2, I2, r2, q2⟩ => ?_
 ·cases d with
  | tup zs =>
   cases e2
   obtain ⟨a, vs, rfl, hS, P⟩ := Zbd.mp r
   exact ⟨a, rfl, .inr ⟨⟨vs, hS⟩, q _ H' ι' l h (Zvh hS P)⟩⟩
  | fl zs =>
   cases e2
   obtain ⟨a, vs, rfl, hS, P⟩ := Zfr.mp r
   exact ⟨a, rfl, .inl ⟨⟨vs, hS.sq⟩, q _ H' ι' l h (Zy9 hS P)⟩⟩
  | ref n =>
   simp only [Zgn] at e2
   split at e2
   ·rename_i zs eo
    obtain ⟨e5, e6⟩ := Prod.mk.inj (Option.some.inj e2)
    subst e5 e6
    obtain ⟨a, rfl, ha⟩ := Zan.mp r
    obtain ⟨vs, h1, P⟩ := h.obj n a _ ha eo
    exact ⟨a, rfl, .inl ⟨⟨vs, SqL.of h1⟩, q _ H' ι' l h (Zxk ha)⟩⟩
   ·cases e2
  | _ => simp [Zgn] at e2
 ·obtain ⟨a, rfl, q2⟩ := q2
  cases r2
  have fp : ∀ b ∈ [s1.heap.objs.size], Zl3 X pins H2 b := fun b hb => by
   have e : b = s1.heap.objs.size := by simpa using hb
   subst e
   exact I2.fpOk (Nat.le_refl _) (I2.hok.fresh (Nat.le_refl _))
  rcases q2 with ⟨⟨xs, hq⟩, q2⟩ | ⟨⟨xs, hq⟩, q2⟩
  ·obtain ⟨its, rv, p, hz⟩ := I2.list hq
   exact wpAny_pyIter_list p.isList ⟨s1.heap.objs.size, [s1.heap.objs.size], _, _, H2, rfl, I2.kept (t' := s1.toks) fun b o e => Heap.get?_push_of_some _ e, Zrx a _, ⟨_, Heap.get?_push_size _ rfl, rfl, rfl⟩, fp, q2⟩
  ·obtain ⟨its, rv, p, hz⟩ := I2.tuple hq
   exact wpAny_pyIter_tuple (show s1.heap.IsTuple a its.toArray from p) ⟨s1.heap.objs.size, [s1.heap.objs.size], _, _, H2, rfl, I2.kept (t' := s1.toks) fun b o e => Heap.get?_push_of_some _ e, Zom a _, ⟨_, Heap.get?_push_size _ rfl, rfl, rfl⟩, fp, q2⟩
end
theorem paf_c {X : Cx} {e : Expr} {es : List Expr} {f : EF} {g : AF} (ha : PEf X e f) (hr : PAf X es g) (hs : Zne e = true) : PAf X (e :: es) (Zaa f g) := Zha ha hr (Zav hs)
noncomputable def Zyd (F : FF) (K : PySem.W.Frag) : Sp := spF K 1 F
theorem Zo1 {F : FF} (h : ∀ ns : List Int, ns.length ≤ 63 -> ∃ Hd', F [.fl (ns.map .int)] [] = some (.bl true, Hd')) :
  ∀ (K : PySem.W.Frag) (H : Hp) (a : Addr) (ns : List Int), ns.length ≤ 63 -> Zzc H -> SqL K H a (ns.map V.int) -> Zyd F K [.ref a] H (fun v _ => v = .bl true) fun _ _ _ => False := by
 intro K H a ns hl hO hS
 obtain ⟨Hd', e⟩ := h ns hl
 have fz : FzL K H a (ns.map V.int) := by
  rcases hS with (h | h) | h
  ·rcases hO a with z | ⟨o, xs, z⟩
   ·rw [h] at z; cases z
   ·rw [h] at z; cases z
  ·exact .inl h
  ·exact .inr h
 have P : Paired (Rep K H []) (ns.map D.int) (ns.map V.int) := by
  generalize ns = ks
  induction ks with
  | nil => exact .nil
  | cons k ks ih => exact .cons (by simp) ih
 refine ⟨[], [.fl (ns.map .int)], [], .bl true, Hd', rfl, ⟨rfl, List.nodup_nil, fun n a o h1 h2 => by simp at h1⟩, .cons (Zfr.mpr ⟨a, _, rfl, fz, P⟩) .nil, e, fun v H' ι' l h r => by simpa using r⟩
variable {X : Cx}
noncomputable def Zjz (x : PyData) : Bool := x.canLay0 && x.showable && decide (x.depth ≤ 30) && decide (x.shown.length ≤ sizeLine)
noncomputable def Zd4 : FF := fun ds H => match ds with
 | [d] => (toP H 30 d).bind fun x => if Zjz x = true then some (.str x.shown, H) else none
 | _ => none
theorem Zoe {k : Nat} (hr0 : Room k X.A) : Zgz X (.builtin "repr") Zd4 := by
 rintro pins s σ H xs us Q I rv ⟨ι, ds, Hd, d, Hd', hr, P, e, q⟩
 unfold Zd4 at e
 split at e
 ·rename_i d0
  obtain ⟨v, rfl, r⟩ := Zj7 P
  obtain ⟨x, e1, e⟩ := Zo e
  split at e
  ·rename_i hc
   obtain ⟨rfl, rfl⟩ := Prod.mk.inj (Option.some.inj e)
   simp only [Zjz, Bool.and_eq_true, decide_eq_true_eq] at hc
   obtain ⟨⟨⟨c1, c2⟩, c3⟩, c4⟩ := hc
   cases rv with
   | cons rx rv =>
    cases rv
    rename_i u
    obtain ⟨as, ra⟩ := Zbl I hr _ _ e1 r rx
    have fin : ∀ h' t tk, (∀ b o, s.heap.get? b = some o -> h'.get? b = some o) -> EP X pins σ Q (.str x.shown t) { s with heap := h', toks := tk } := fun h' t tk k => ⟨.str x.shown, H, I.kept k, ⟨t, rfl⟩, q _ H ι Le.refl hr (by simp)⟩
    have un : X.A.units + 64 < cLine := hr0.units
    have byRef : ∀ a, u = .ref a → wpAny (model X.prog X.w) X.A (call (.builtin "repr") [u]) (EP X pins σ Q) X.xe s := fun a ea => by
     subst ea
     exact repr_of_reads' ra c2 (PyData.noDict_hsm (PyData.hasDict_of_canLay _ c1)) hr0.gd (by omega) (fun _ _ z => z) (fun h' t tk k => fin h' t tk k) c4
    cases ra with
    | none => exact PySem.P.repr_of_none (fin s.heap s.toks (s.toks + 1) fun _ _ z => z)
    | bool b => exact PySem.P.repr_of_bool (fin s.heap s.toks (s.toks + 1) fun _ _ z => z)
    | int i t => exact PySem.P.repr_of_int (by simpa [PyData.showable] using c2) (fin s.heap s.toks (s.toks + 1) fun _ _ z => z)
    | str z t => exact PySem.P.repr_of_str (fin s.heap s.toks (s.toks + 1) fun _ _ z => z) c4
    | list _ _ _ _ => exact byRef _ rfl
    | tuple _ _ _ _ => exact byRef _ rfl
    | dict _ _ _ _ => exact byRef _ rfl
  ·cases e
 ·cases e
variable {X : Cx}
noncomputable def Gc (K : PySem.W.Frag) (mg : Str -> Option Value) (x : Str) (d : D) : Prop := ∃ u v, mg x = some u ∧ Zbv v u ∧ ∀ H ι, Rep K H ι d v
theorem Zut {x : Str} {d : D} {pos : Pos} (hg : Gl X x) (h : Gc X.K X.mg x d) (hd : (x == ("__debug__" : Str)) = false := by decide) : PEf X (.Name x pos) (eC d) := by
 obtain ⟨u, v, hm, r, rp⟩ := h
 exact Zr4 (Zmo (v := v) hg hm r hd) rp
variable {X : Cx}
noncomputable def Za4 (kvs : List (D × D)) (k : List Int) : Option D := (kvs.find? fun p => nk p.1 == some k).map (·.2)
noncomputable def Zlw (kvs : List (D × D)) (kd : D) (k : List Int) (vd : D) : List (D × D) :=
 if (Za4 kvs k).isSome then kvs.map (fun p => if nk p.1 = some k then (p.1, vd) else p) else kvs ++ [(kd, vd)]
section
variable {K : PySem.W.Frag} {H : Hp} {ι : List Addr}
theorem Zhu {kvs : List (D × D)} {xs : List (List Int × Addr × Value)} (h : Paired (Zox K H ι) kvs xs) (k : List Int) :
  (Za4 kvs k = none ∧ atKey xs k = none) ∨ ∃ vd b u v, Za4 kvs k = some vd ∧ atKey xs k = some (b, u) ∧ Zbv v u ∧ Rep K H ι vd v := by
 unfold Za4 atKey
 induction h with
 | nil => exact .inl ⟨rfl, rfl⟩
 | @cons p x ps ys r t ih =>
  obtain ⟨r1, r2, v, r3, r4⟩ := r
  by_cases hk : x.1 = k
  ·have e1 : (nk p.1 == some k) = true := by rw [r1, hk]; simp
   refine .inr ⟨p.2, x.2.1, x.2.2, v, ?_, ?_, r3, r4⟩
   ·rw [List.find?_cons]; simp only [e1]; rfl
   ·rw [List.find?_cons]; simp only [hk, decide_true]; rfl
  ·have e1 : ¬ (nk p.1 == some k) = true := by rw [r1]; simpa using hk
   have e1' : (nk p.1 == some k) = false := by simpa using e1
   have e2' : decide (x.1 = k) = false := decide_eq_false hk
   rw [List.find?_cons, List.find?_cons]
   simp only [e1', e2']
   exact ih
theorem Zto {kvs : List (D × D)} {xs : List (List Int × Addr × Value)} {kd vd : D} {k : List Int} {b : Addr} {u : Value} {v : V} (h : Paired (Zox K H ι) kvs xs) (h1 : nk kd = some k) (h2 : Rep K H ι kd (.ref b)) (rv : Zbv v u) (r : Rep K H ι vd v) :
  Paired (Zox K H ι) (Zlw kvs kd k vd) (storedH xs k b u) := by
 have all : ∀ {ls : List (D × D)} {ys : List (List Int × Addr × Value)}, Paired (Zox K H ι) ls ys -> Paired (Zox K H ι) (ls.map (fun p => if nk p.1 = some k then (p.1, vd) else p)) (ys.map (putAt k u)) := by
  intro ls ys q
  induction q with
  | nil => exact .nil
  | @cons p x ps zs r' t ih =>
   refine .cons ?_ ih
   obtain ⟨r1, r2, r3⟩ := r'
   unfold putAt
   by_cases hk : x.1 = k
   ·have e : nk p.1 = some k := by rw [r1, hk]
    show Zox K H ι (if nk p.1 = some k then (p.1, vd) else p) (if x.1 = k then (x.1, x.2.1, u) else x)
    rw [if_pos hk, if_pos e]
    exact ⟨r1, r2, v, rv, r⟩
   ·have e : ¬ nk p.1 = some k := by rw [r1]; simpa using hk
    show Zox K H ι (if nk p.1 = some k then (p.1, vd) else p) (if x.1 = k then (x.1, x.2.1, u) else x)
    rw [if_neg hk, if_neg e]
    exact ⟨r1, r2, r3⟩
 unfold Zlw storedH
 rcases Zhu h k with ⟨e1, e2⟩ | ⟨_, _, _, _, e1, e2, _⟩
 ·rw [e1, e2]
  exact Prd.append h (.cons ⟨h1, h2, v, rv, r⟩ .nil)
 ·rw [e1, e2]
  exact all h
theorem Zsf (kvs : List (D × D)) (kd : D) (k : List Int) (vd : D) : (Zlw kvs kd k vd).length ≤ kvs.length + 1 := by
 unfold Zlw; split <;> simp
end
section
variable {pins : List (Addr × Obj)} {σ : L2.St} {H : Hp} {s : Shared} {ι : List Addr} {Hd : HD}
theorem Zy8 {d : D} {v : V} {u : Value} {k : Int} {K : PySem.W.Frag} (e : nkOf d = some k) (r : Rep K H ι d v) (q : Zbv v u) : Zma k u = true := by
 cases d with
 | bl b => cases e; simp at r; subst r; cases q; simp [Zma, Zr1]
 | int i => cases e; simp at r; subst r; obtain ⟨t, rfl⟩ := q; simp [Zma, Zr1]
 | _ => cases e
theorem Zlk {P : Program} {w : World} {K : PySem.W.Frag} : ∀ {ds : List D} {vs : List V} {us : List Value} {ks : List Int}, Zkb ds = some ks -> Paired (Rep K H ι) ds vs -> Zbf vs us -> ItemsAre (Zc2 P w) ks us
 | [], vs, us, ks, e, p, q => by cases e; cases p; cases q; exact .nil
 | d :: ds, vs, us, ks, e, p, q => by
  cases p with
  | cons p1 p2 =>
   cases q with
   | cons q1 q2 =>
    simp only [Zkb] at e
    obtain ⟨k, e1, e⟩ := Zo e
    obtain ⟨r, e2, rfl⟩ := Zm e
    exact .cons (Zy8 e1 p1 q1) (Zlk e2 p2 q2)
theorem Zkr (I : Inv X pins σ H s) {d : D} {k : List Int} {b : Addr} (e : nk d = some k) (r : Rep X.K H ι d (.ref b)) : (tupleKind (Zc2 X.prog X.w)).is s.heap k b := by
 cases d <;> simp only [nk] at e <;> try cases e
 rename_i ds
 obtain ⟨a, vs, ea, h, P⟩ := Zbd.mp r
 cases ea
 obtain ⟨its, rv, ht, hz⟩ := I.tuple h
 obtain ⟨o, h1, h2, n, h3⟩ := ht
 exact ⟨o, its.toArray, n, h1, h2, h3, by simpa using Zlk e P rv⟩
theorem Zhb (I : Inv X pins σ H s) {a : Addr} {kvs : List (D × D)} {fz : Bool} (h : Zoy X.K H ι a (.dic kvs fz)) : (a == sysModules) = false ∧ kvs.length ≤ sizeLine ∧ ∃ xs, (if fz = true then ∃ o, H a = some (.frz o (.ext (Zcl a xs))) else H a = some (.ext (Zcl a xs))) ∧ Paired (Zox X.K H ι) kvs xs ∧ s.heap.DictOfH (tupleKind (Zc2 X.prog X.w)) a xs := by
 obtain ⟨h1, h2, xs, e, p⟩ := h
 have rd : Rd H a (.ext (Zcl a xs)) := by
  cases fz with
  | true => rw [if_pos rfl] at e; exact .inr e
  | false => rw [if_neg (by simp)] at e; exact .inl e
 obtain ⟨⟨o, es, ep, g1, g2, g3, g4, g5⟩, _⟩ := (show Zcr X.prog X.w H s.heap a (.ext (Zcl a xs)) from rd.ok I.hok)
 refine ⟨h1, h2, xs, e, p, o, es, ep, g1, g2, g3, g4, ?_, g5⟩
 have all : ∀ {l : List (D × D)} {m : List (List Int × Addr × Value)}, Paired (Zox X.K H ι) l m -> ∀ x ∈ m, (tupleKind (Zc2 X.prog X.w)).is s.heap x.1 x.2.1 := by
  intro l m q
  induction q with
  | nil => intro x hx; exact nomatch hx
  | @cons p x ps qs hq t ih =>
   intro y hy
   rcases List.mem_cons.mp hy with e | hy
   ·subst e
    exact Zkr I hq.1 hq.2.1
   ·exact ih y hy
 exact all p
end
noncomputable def Ztd (x : D) (H : HD) : Option (List (D × D)) := match x with
 | .ref n => match H[n]? with
  | some (.dic kvs _) => some kvs
  | _ => none
 | _ => none
theorem Zhm {x : D} {Hd : HD} {kvs : List (D × D)} (e : Ztd x Hd = some kvs) : ∃ n fz, x = .ref n ∧ Hd[n]? = some (.dic kvs fz) := by
 cases x <;> simp only [Ztd] at e <;> try cases e
 rename_i n
 split at e
 ·rename_i fz h; cases e; exact ⟨n, fz, rfl, h⟩
 ·cases e
noncomputable def Zfc : F2 := fun x y H => (Ztd x H).bind fun kvs => (nk y).bind fun k => (Za4 kvs k).map fun v => (v, H)
theorem Znm {K : PySem.W.Frag} {H : Hp} {ι : List Addr} {d : D} {k : List Int} {v : V} (e : nk d = some k) (r : Rep K H ι d v) : ∃ b, v = .ref b := by
 cases d <;> simp only [nk] at e <;> try cases e
 obtain ⟨a, vs, rfl, _⟩ := Zbd.mp r
 exact ⟨a, rfl⟩
theorem Zsl (hu : X.A.units + 64 < cLine) : IxF X Zfc := by
 rintro va sl pins s σ H x y v u Q I rx ry ⟨ι, dx, dy, Hd, d, Hd', hr, r1, r2, e, q⟩ hs
 obtain ⟨kvs, e1, e⟩ := Zo e
 obtain ⟨k, e2, e⟩ := Zo e
 obtain ⟨vd, e3, e⟩ := Zm e
 obtain ⟨rfl, rfl⟩ := Prod.mk.inj e
 obtain ⟨n, fz, rfl, hn⟩ := Zhm e1
 obtain ⟨a, rfl, ha⟩ := Zan.mp r1
 obtain ⟨b, rfl⟩ := Znm e2 r2
 cases rx
 cases ry
 obtain ⟨h1, h2, xs, h3, P, dd⟩ := Zhb I (hr.obj n a _ ha hn)
 have key := Zkr I e2 r2
 rcases Zhu P k with ⟨z, _⟩ | ⟨vd', b', u', v', z1, z2, z3, z4⟩
 ·rw [z] at e3; cases e3
 ·rw [z1] at e3; cases e3
  have ty : s.TypeIs (.ref a) "dict" := dd.typeIs
  refine tail_any (ops := [.ref a, .ref b]) ty PySem.F.slot_dict_getitem.lookup (wpAny_getItem_heap (knd := tupleKind (Zc2 X.prog X.w)) (tupleKind_room_in1 (by omega)) key dd z2 ?_) hs
  exact ⟨v', H, I.tok _, z3, q _ H ι Le.refl hr z4⟩
noncomputable def dinD : F2 := fun x y H => (Ztd y H).bind fun kvs => (nk x).map fun k => (.bl (Za4 kvs k).isSome, H)
theorem dinf (hu : X.A.units + 64 < cLine) : OpF X (compareOp .In) dinD := by
 rintro pins s σ H x y v u Q I rx ry ⟨ι, dx, dy, Hd, d, Hd', hr, r1, r2, e, q⟩
 obtain ⟨kvs, e1, e⟩ := Zo e
 obtain ⟨k, e2, e⟩ := Zm e
 obtain ⟨rfl, rfl⟩ := Prod.mk.inj e
 obtain ⟨n, fz, rfl, hn⟩ := Zhm e1
 obtain ⟨a, rfl, ha⟩ := Zan.mp r2
 obtain ⟨b, rfl⟩ := Znm e2 r1
 cases rx
 cases ry
 obtain ⟨h1, h2, xs, h3, P, dd⟩ := Zhb I (hr.obj n a _ ha hn)
 refine wpAny_in_heap (knd := tupleKind (Zc2 X.prog X.w)) (tupleKind_room_in1 (by omega)) (Zkr I e2 r1) h1 dd ?_
 have e3 : (atKey xs k).isSome = (Za4 kvs k).isSome := by
  rcases Zhu P k with ⟨z1, z2⟩ | ⟨_, _, _, _, z1, z2, _⟩ <;> rw [z1, z2] <;> rfl
 rw [e3]
 exact ⟨.bl _, H, I.tok _, rfl, q _ H ι Le.refl hr (by simp)⟩
noncomputable def eDN : EF := fun _ H => some (.ref H.length, H ++ [.dic [] false])
theorem Zjy {pos : Pos} : PEf X (.Dict [] [] pos) eDN := by
 rintro pins s σ H Q I ⟨ι, σd, Hd, d, Hd', sr, hr, e, q⟩
 cases e
 have hb : sysModules < s.heap.objs.size := Nat.lt_trans (by decide) (show mainGlobals < s.heap.objs.size from (I.mod.glob.keeps I.bk).lt)
 have hp := I.hok.fresh (Nat.le_refl s.heap.objs.size)
 have ok : Zcr X.prog X.w (upd H s.heap.objs.size (.ext (Zcl s.heap.objs.size []))) (s.heap.push { cls := .type "dict", data := .dict #[] }) s.heap.objs.size (.ext (Zcl s.heap.objs.size [])) :=
  ⟨⟨_, #[], 0, Heap.get?_push_size _ rfl, ⟨rfl, rfl, rfl⟩, rfl, rfl, List.nodup_nil⟩, ⟨_, Heap.get?_push_size _ rfl⟩, fun h1 h2 d k => Zcl.keep d k⟩
 refine wpAny_Dict_empty ⟨.ref s.heap.objs.size, _, I.laid (a := s.heap.objs.size) (o := .ext (Zcl s.heap.objs.size [])) (t' := s.toks) (fun _ _ q => Heap.get?_push_of_some _ q) (Nat.le_refl _) ok, rfl, ?_⟩
 have hl : ι.length = Hd.length := hr.len
 refine q _ _ (ι ++ [s.heap.objs.size]) (Le.fresh1 hp _) (hr.new hp ⟨beq_eq_false_iff_ne.mpr (Ne.symm (Nat.ne_of_lt hb)), Nat.zero_le _, [], by rw [if_neg (by simp)]; exact Zaq, .nil⟩) (Zan.mpr ⟨_, rfl, by rw [← hl]; simp⟩)
noncomputable def Zl7 : Zv8 := fun o i v H => match o with
 | .ref n => match H[n]? with
  | some (.dic kvs false) => (nk i).bind fun k => if kvs.length < sizeLine then some (H.set n (.dic (Zlw kvs i k v) false)) else none
  | _ => none
 | _ => none
theorem Zkm {pins : List (Addr × Obj)} {σ : L2.St} {H : Hp} {s : Shared} {a : Addr} {xs xs' : List (List Int × Addr × Value)} {h' : Heap} {t' : Nat} (I : Inv X pins σ H s) (h3 : H a = some (.ext (Zcl a xs))) (dd : h'.DictOfH (tupleKind (Zc2 X.prog X.w)) a xs') (hs : Heap.SameBut a s.heap h') :
  Inv X pins σ (upd H a (.ext (Zcl a xs'))) { s with heap := h', toks := t' } := by
 obtain ⟨o, es, ep, g1, g2, g3, g4, _, g5⟩ := dd
 have ok : Zcr X.prog X.w (upd H a (.ext (Zcl a xs'))) h' a (.ext (Zcl a xs')) := ⟨⟨o, es, ep, g1, g2, g3, g4, g5⟩, ⟨o, g1⟩, fun h1 h2 d k => Zcl.keep d k⟩
 exact I.write (x := a) (e := a) (by rw [h3]; exact True.intro) (.inl rfl) (fun b q hb z => (hs.2 b hb).trans z) ⟨o, g1⟩ ok
theorem Zo0 {H : Hp} {ι : List Addr} {Hd : HD} {n : Nat} {a : Addr} {kvs : List (D × D)} {xs : List (List Int × Addr × Value)} {kd vd : D} {k : List Int} {b : Addr} {u : Value} {v : V} (hr : HRep X.K H ι Hd) (ha : ι[n]? = some a) (h1 : (a == sysModules) = false) (hl : kvs.length < sizeLine) (h3 : H a = some (.ext (Zcl a xs))) (P : Paired (Zox X.K H ι) kvs xs) (e2 : nk kd = some k) (r2 : Rep X.K H ι kd (.ref b)) (rv : Zbv v u) (r3 : Rep X.K H ι vd v) :
  Le X.K H ι (upd H a (.ext (Zcl a (storedH xs k b u)))) ι ∧ HRep X.K (upd H a (.ext (Zcl a (storedH xs k b u)))) ι (Hd.set n (.dic (Zlw kvs kd k vd) false)) := by
 have L : Le X.K H ι (upd H a (.ext (Zcl a (storedH xs k b u)))) ι := Le.upd (List.mem_of_getElem? ha) h3 trivial _
 refine ⟨L, hr.upd ha h3 trivial ⟨h1, ?_, _, by rw [if_neg (by simp)]; exact Zaq, ?_⟩⟩
 ·have := Zsf kvs kd k vd; omega
 ·refine Zto (Prd.imp P fun p x _ z => ⟨z.1, z.2.1.mono L, let ⟨v, z1, z2⟩ := z.2.2; ⟨v, z1, z2.mono L⟩⟩) e2 (r2.mono L) rv (r3.mono L)
theorem Zzp (hu : X.A.units + 64 < cLine) : Zwq X Zl7 := by
 rintro pins s σ H o i v ov iv u Q I ro ri rv ⟨ι, od, id, vd, Hd, Hd', hr, r1, r2, r3, e, q⟩
 cases od <;> simp only [Zl7] at e <;> try cases e
 rename_i n
 split at e
 ·rename_i kvs hn
  obtain ⟨k, e2, e⟩ := Zo e
  split at e
  ·rename_i hl
   cases e
   obtain ⟨a, rfl, ha⟩ := Zan.mp r1
   obtain ⟨b, rfl⟩ := Znm e2 r2
   cases ro
   cases ri
   obtain ⟨h1, h2, xs, h3, P, dd⟩ := Zhb I (hr.obj n a _ ha hn)
   rw [if_neg (by simp)] at h3
   have hz : xs.length ≤ sizeLine := by rw [← Prd.len P]; exact h2
   refine wpAny_setItem_heap (knd := tupleKind (Zc2 X.prog X.w)) (hsz := hz) (tupleKind_room_in1 (by omega)) (Zkr I e2 r2) dd fun h' dd' hs => ?_
   obtain ⟨L, hr'⟩ := Zo0 hr ha h1 hl h3 P e2 r2 rv r3
   exact ⟨_, Zkm I h3 dd' hs, q _ ι L hr'⟩
  ·cases e
 ·cases e
section
variable {prog : Program} {w : World} {kd : HeapKind prog w (List Int)} {A : Around} {E : Value -> Shared -> Prop} {s : Shared}
theorem Zmp {d b : Addr} {xs : List (List Int × Addr × Value)} {k : List Int} {v : Value} {Q : Value -> Shared -> Prop} (rm : kd.room A) (key : kd.is s.heap k b) (dm : s.heap.DictOfH kd d xs) (sz : xs.length ≤ sizeLine)
  (old : ∀ p, atKey xs k = some p -> Q p.2 { s with toks := s.toks + kd.draws k })
  (new : atKey xs k = none -> ∀ h2, h2.DictOfH kd d (storedH xs k b v) -> Heap.SameBut d s.heap h2 -> Q v { s with heap := h2, toks := s.toks + kd.draws k }) :
  wpAny (model prog w) A (dictSetDefault d (.ref b) v) Q E s := by
 obtain ⟨ob, es, ep, g1, g2, g3, g4, g5, g6⟩ := dm
 unfold dictSetDefault
 refine wpAny_holding (wpAny_bind (kd.pyHash rm key (wpAny_bind (wpAny_dictFind_heap (s := { s with toks := s.toks + kd.draws k }) rm key g1 g3 g4 g5 g6 (fun no => ?_) (fun j p hj => ?_)))))
 ·have em := atKey_none_of_get no
  have sm : ∀ f, Heap.SameBut d s.heap (s.heap.update d f) := fun f => Heap.SameBut.update ..
  have len := size_of_entries g4
  refine wpAny_bind (wpAny_rule (wpAny_bind (wpAny_updateDictKeys (s := { s with toks := s.toks + kd.draws k }) (hz := by omega) g1 g3 (wpAny_pure (new em _ ?_ (sm _))))))
  refine ⟨_, _, ep + 1, Heap.get?_update_self _ g1 (Obj.isFreed_of_dict (Obj.data_mapDictKeys g3 _)), g2.mapDictKeys _, Obj.data_mapDictKeys g3 _, ?_⟩
  rw [storedH_new em]
  refine ⟨by simp [g4, entryOfKey], fun x hx => ?_, ?_⟩
  ·have one : kd.is s.heap x.1 x.2.1 := by
    rcases List.mem_append.mp hx with hx | hx
    ·exact g5 x hx
    ·rw [List.mem_singleton.mp hx]; exact key
   exact kd.keeps one g1 g3 (sm _)
  ·have nm := not_mem_keys_of_get no
   rw [List.map_append, List.nodup_append]
   refine ⟨g6, by simp, fun x hx y hy e => nm ?_⟩
   have yk : y = k := by simpa using hy
   rw [← yk, ← e]
   exact hx
 ·have ae := entry_at g4 j
  rw [hj] at ae
  refine wpAny_bind (wpAny_dictEntries (s := { s with toks := s.toks + kd.draws k }) g1 g3 ?_)
  rw [ae]
  exact wpAny_bind (wpAny_rule (wpAny_pure (old p (atKey_of_get g6 hj))))
end
noncomputable def Zij (x : D) (ds : List D) (H : HD) : Option (D × HD) := match x, ds with
 | .ref n, [y, v] => match H[n]? with
  | some (.dic kvs false) => (nk y).bind fun k => if kvs.length < sizeLine then match Za4 kvs k with
   | some z => some (z, H)
   | none => some (v, H.set n (.dic (Zlw kvs y k v) false))
   else none
  | _ => none
 | _, _ => none
theorem Zvg (hu : X.A.units + 64 < cLine) : MtF X "dict.setdefault" Zij := by
 rintro pins s σ H x xs v us Q I rx rv ⟨ι, dx, ds, Hd, d, Hd', hr, r1, P1, e, q⟩
 unfold Zij at e
 split at e
 ·rename_i n y vd
  split at e
  ·rename_i kvs hn
   obtain ⟨k, e2, e⟩ := Zo e
   split at e
   ·rename_i hl
    obtain ⟨a, rfl, ha⟩ := Zan.mp r1
    obtain ⟨v1, v2, rfl, ry, rd⟩ := Zz7 P1
    obtain ⟨b, rfl⟩ := Znm e2 ry
    cases rx
    cases rv with
    | cons q1 rv =>
     cases rv with
     | cons q2 rv =>
      cases rv
      cases q1
      rename_i u2
      obtain ⟨h1, h2, ys, h3, P, dd⟩ := Zhb I (hr.obj n a _ ha hn)
      rw [if_neg (by simp)] at h3
      have hz : ys.length ≤ sizeLine := by rw [← Prd.len P]; exact h2
      have ty : s.TypeIs (.ref a) "dict" := dd.typeIs
      have body : wpAny (model X.prog X.w) X.A.in1 (Builtin.«dict.setdefault» ⟨[.ref a, .ref b, u2], []⟩) (fun fin s' => ∃ r, fin = .done (.ret r) ∧ EP X pins σ Q r s') X.xe s := by
       unfold Builtin.«dict.setdefault» Builtin.Dict.keyAndDefault
       refine wpAny_bind (wpAny_bind (wpAny_notOrdered_dict ty (wpAny_pure ?_)))
       show wpAny _ _ (if (a == sysModules) = true then _ else (dictSetDefault a (.ref b) u2 >>= _)) _ _ s
       rw [if_neg (by rw [h1]; decide)]
       refine wpAny_bind (Zmp (kd := tupleKind (Zc2 X.prog X.w)) (show (tupleKind (Zc2 X.prog X.w)).room X.A.in1 from (by show X.A.units + 1 < cLine; omega)) (Zkr I e2 ry) dd hz (fun p hp => ?_) (fun hp h2' dd' hs => ?_))
       ·rcases Zhu P k with ⟨_, z⟩ | ⟨vd', b', u', v', z1, z2, z3, z4⟩
        ·rw [z] at hp; cases hp
        ·rw [z2] at hp; cases hp
         rw [z1] at e; cases e
         exact wpAny_pure ⟨_, rfl, v', H, I.tok _, z3, q _ H ι Le.refl hr z4⟩
       ·rcases Zhu P k with ⟨z, _⟩ | ⟨vd', b', u', v', z1, z2, z3, z4⟩
        ·rw [z] at e; cases e
         obtain ⟨L, hr'⟩ := Zo0 hr ha h1 hl h3 P e2 ry q2 rd
         exact wpAny_pure ⟨_, rfl, v2, _, Zkm I h3 dd' hs, q2, q _ _ ι L hr' (rd.mono L)⟩
        ·rw [z2] at hp; cases hp
      exact wpAny_call_entry PySem.F.slot_dict_setdefault ty PySem.F.entry_dict_setdefault body (PySem.F.args_dict_setdefault_3 _ _ _)
   ·cases e
  ·cases e
 ·cases e
noncomputable def Zm2 : D -> HD -> Bool
 | .ref n, H => match H[n]? with
  | some (.dic _ _) => true
  | _ => false
 | _, _ => false
noncomputable def eDM (g : D -> List D -> HD -> Option (D × HD)) (fo : EF) (f : AF) : EF := fun σ H => (fo σ H).bind fun o => if Zm2 o.1 o.2 = true then (f σ o.2).bind fun p => g o.1 p.1 p.2 else none
theorem Zsi {pins : List (Addr × Obj)} {σ : L2.St} {H : Hp} {s : Shared} {ι : List Addr} {Hd : HD} {x : D} {v : V} {u : Value} (I : Inv X pins σ H s) (hr : HRep X.K H ι Hd) (r : Rep X.K H ι x v) (rv : Zbv v u) (e : Zm2 x Hd = true) :
  s.TypeIs u "dict" ∧ ∀ b, u = .ref b → ∃ ob, s.heap.get? b = some ob ∧ ob.dict = none := by
 cases x <;> simp only [Zm2] at e <;> try cases e
 rename_i n
 split at e
 ·rename_i kvs fz hn
  obtain ⟨a, rfl, ha⟩ := Zan.mp r
  cases rv
  obtain ⟨_, _, xs, _, _, dd⟩ := Zhb I (hr.obj n a _ ha hn)
  refine ⟨dd.typeIs, fun b eb => ?_⟩
  cases eb
  obtain ⟨ob, _, _, g1, g2, _⟩ := dd
  exact ⟨ob, g1, g2.2.1⟩
 ·cases e
theorem Zrn {e o : Expr} {es : List Expr} {name : Str} {apos cpos : Pos} {id : String} {g : D → List D → HD → Option (D × HD)} {fo : EF} {f : AF} (slot : Slot "dict" name id) (hty : typeOf (.builtin id) = pure (.type "method_descriptor")) (hm : MtF X id g) (ho : PEf X o fo) (ha : PAf X (e :: es) f)
  (hbase : attributeBase o name X.env (eval o X.env) = eval o X.env := by rfl)
  (hfew : ((backTo cpos (starEach (e :: es) X.env)).all (fun x => !x.1) && (backToKw cpos (keywordEach [] X.env)).all (fun x => x.1.isSome)
   && decide ((e :: es).length + ([] : List Keyword).length + (if ([] : List Keyword).isEmpty then 0 else 1) < 30)) = true := by exact Znq rfl (by decide))
  (hline : (apos.endLine == cpos.line) = true := by rfl) (hs : starEach (e :: es) X.env = (false, eval e X.env) :: starEach es X.env := by exact Zav rfl) (hplain : (backTo cpos (starEach es X.env)).any (·.1) = false := by exact Zbx rfl) :
  PEf X (.Call (.Attribute o name apos) (e :: es) [] cpos) (eDM g fo f) := by
 rintro pins s σ H Q I ⟨ι, σd, Hd, d, Hd', sr, hr, e0, q⟩
 obtain ⟨⟨x, H1⟩, e1, e0⟩ := Zo e0
 dsimp only at e0
 split at e0
 ·rename_i hl
  obtain ⟨⟨y, H2⟩, e2, e0⟩ := Zo e0
  let P1 : VK := fun v1 H1' => ∃ ι1, Le X.K H ι H1' ι1 ∧ HRep X.K H1' ι1 H1 ∧ Rep X.K H1' ι1 x v1
  refine wpAny_Call_method_late hbase hfew hline rfl (thn (ho pins s σ H P1 I ⟨ι, σd, Hd, x, H1, sr, hr, e1, fun v1 H1' ι1 l1 h1 r1 => ⟨ι1, l1, h1, r1⟩⟩) fun v s1 zz => ?_)
  obtain ⟨xv, H1', I1, rx, ι1, l1, h1, r1⟩ := zz
  obtain ⟨t1, t2⟩ := Zsi I1 h1 r1 rx hl
  refine ⟨"dict", id, PySem.F.plainAttrs_dict, slot, hty, t1, t2, ?_⟩
  let P2 : List V -> Hp -> Prop := fun vs H2' => ∃ ι2, Le X.K H ι H2' ι2 ∧ HRep X.K H2' ι2 H2 ∧ Rep X.K H2' ι2 x xv ∧ Paired (Rep X.K H2' ι2) y vs
  have hA := ha cpos pins s1 σ H1' P2 I1 ⟨ι1, σd, H1, y, H2, sr.mono l1, h1, e2, fun vs H2' ι2 l2 h2 r2 => ⟨ι2, l1.trans l2, h2, r1.mono l2, r2⟩⟩
  rw [hs] at hA ⊢
  refine Calls.callWith_builtin (by show (false || (backTo cpos (starEach es X.env)).any (·.1)) = false; rw [hplain] <;> rfl) (Calls.evalArgs_plain ?_)
  exact thn hA fun us s2 ⟨vs, H2', I2, r2, ι2, l2, h2, rx2, rp⟩ => hm pins s2 σ H2' xv vs v us Q I2 rx r2 ⟨ι2, x, y, H2, d, Hd', h2, rx2, rp, e0, fun v H' ι' l h r => q v H' ι' (l2.trans l) h r⟩
 ·cases e0
noncomputable def Zos : FF := fun ds H => match ds with
 | [x] => (Ztd x H).map fun kvs => (.int kvs.length, H)
 | _ => none
theorem Zn9 : Zgz X (.builtin "len") Zos := by
 rintro pins s σ H xs us Q I rv ⟨ι, ds, Hd, d, Hd', hr, P, e, q⟩
 unfold Zos at e
 split at e
 ·rename_i x
  obtain ⟨kvs, e1, e⟩ := Zm e
  obtain ⟨rfl, rfl⟩ := Prod.mk.inj e
  obtain ⟨n, fz, rfl, hn⟩ := Zhm e1
  obtain ⟨v, rfl, r⟩ := Zj7 P
  obtain ⟨a, rfl, ha⟩ := Zan.mp r
  cases rv with
  | cons q1 rv =>
   cases rv
   cases q1
   obtain ⟨h1, h2, ys, _, PK, dd⟩ := Zhb I (hr.obj n a _ ha hn)
   have ty : s.TypeIs (.ref a) "dict" := dd.typeIs
   obtain ⟨ob, es, ep, g1, g2, g3, g4, _⟩ := dd
   have sz : es.size = kvs.length := by
    have a1 := size_of_entries g4
    have a2 := Prd.len PK
    omega
   have l63 : (kvs.length : Int) < 2 ^ 63 := by rw [PySem.sizeLine_eq] at h2; omega
   have ask : ∀ A' E', wpAny (model X.prog X.w) A' (Builtin.«dict.__len__» ⟨[.ref a], []⟩) (fun fin s' => ∃ r, fin = .done (.ret r) ∧ r = .int kvs.length s.toks ∧ s' = { s with toks := s.toks + 1 }) E' s := by
    intro A' E'
    show wpAny _ _ (dictSize a >>= _) _ _ s
    unfold dictSize
    refine wpAny_bind (wpAny_bind (wpAny_dictEntries g1 g3 (wpAny_pure (wpAny_bind (wpAny_pendingCount_other h1 (wpAny_ret_mkInt ?_))))))
    rw [Nat.add_zero, sz]
    exact ⟨rfl, rfl⟩
   refine Calls.call_function_entry kind_len plain_len entry_len (args_len1 _) ?_
   unfold Builtin.«len»
   refine wpAny_bind (m := oneArg "len" _) (wpAny_pure (wpAny_bind (m := callSpecial? (.ref a) (Str.ofString "__len__")) (wpAny_callSpecial?_slot (name := Str.ofString "__len__") ty PySem.F.slot_dict_len
    (wpAny_call_entry PySem.F.slot_dict_len ty PySem.F.entry_dict_len (thn (ask _ _) fun fin s' ⟨r, f1, f2, f3⟩ => ⟨r, f1, ?_⟩) (PySem.F.args_dict_len_1 _)))))
   subst f2 f3
   refine wpAny_bind (wpAny_holding (wpAny_pure (wpAny_bind (wpAny_letGo ?_))))
   show wpAny _ _ (if ((kvs.length : Nat) : Int) < 0 then _ else if ((kvs.length : Nat) : Int) ≥ 2 ^ 63 then _ else _) _ _ _
   rw [if_neg (by omega), if_neg (by omega)]
   exact wpAny_bind (wpAny_mkInt (wpAny_pure ⟨_, rfl, .int kvs.length, H, I.tok _, ⟨_, rfl⟩, q _ H ι Le.refl hr (by simp)⟩))
 ·cases e
section
variable {prog : Program} {w : World} {A : Around} {E : Value -> Shared -> Prop} {s : Shared}
theorem Zs0 {d : Addr} {ob : Obj} {es : Array DictEntry} {ep : Nat} {Q : Value -> Shared -> Prop} (h0 : (d == sysModules) = false) (g1 : s.heap.get? d = some ob) (g2 : ob.ExactDict) (g3 : ob.data = .dict es ep)
  (q : Q (.ref s.heap.objs.size) { s with heap := s.heap.push { cls := .type "dict_keyiterator", data := .fields #[.ref d, .int 0 0, .int es.size 0, .int ep 0] } }) : wpAny (model prog w) A (pyIter (.ref d)) Q E s := by
 have ty : s.TypeIs (.ref d) "dict" := ⟨ob, g1, g2.1⟩
 refine wpAny_pyIter_slot ty F.slot_dict_iter (wpAny_call_entry F.slot_dict_iter ty F.entry_dict_iter ?_ (F.args_dict_iter_1 _))
 unfold Builtin.«dict.__iter__» Builtin.Dict.dictSlotNone
 refine wpAny_bind (wpAny_bind (wpAny_notOrdered_dict ty (wpAny_pure ?_)))
 show wpAny _ _ (Builtin.Dict.showsAll d >>= _) _ _ s
 unfold Builtin.Dict.showsAll
 rw [if_neg (by rw [h0]; decide)]
 refine wpAny_bind (wpAny_pure (wpAny_bind (wpAny_dictEntries g1 g3 (wpAny_bind (wpAny_dictEpoch g1 g3 (wpAny_bind (wpAny_newObj_type (wpAny_pure ?_))))))))
 exact ⟨_, rfl, "dict_keyiterator", _, ⟨_, Heap.get?_push_size _ rfl, rfl⟩, F.slot_dict_keyiterator_next.lookup, by simpa [rawInt] using q⟩
theorem Zvr {d it : Addr} {ob : Obj} {es : Array DictEntry} {i ep : Nat} {Q : Option Value -> Shared -> Prop} (hit : s.heap.IsKeyIter it d i es.size ep) (g1 : s.heap.get? d = some ob) (g3 : ob.data = .dict es ep) (lt : i < es.size)
  (q : ∀ h2, h2.IsKeyIter it d (i + 1) es.size ep -> Heap.SameBut it s.heap h2 -> Q (some es[i].key) { s with heap := h2 }) : wpAny (model prog w) A (pyNext (.ref it)) Q E s := by
 have ty := hit.typeIs
 obtain ⟨oi, i1, i2, i3⟩ := id hit
 have own : Builtin.Dict_items.ownsTuple "dict_keyiterator" = false := by decide
 unfold pyNext
 refine wpAny_bind (wpAny_attempt (wpAny_callSpecial?_slot (name := Str.ofString "__next__") ty F.slot_dict_keyiterator_next (wpAny_call_entry F.slot_dict_keyiterator_next ty F.entry_dict_keyiterator_next ?_ (F.args_dict_keyiterator_next_1 _))))
 refine wpAny_bind (wpAny_pure (wpAny_bind (wpAny_bind ?_)))
 refine wpAny_bind (wpAny_typeNameOfWhole_keyiter ty (wpAny_pure (wpAny_bind (wpAny_fieldsOf i1 i3 ?_))))
 simp only [own, Bool.false_eq_true, if_false]
 show wpAny _ _ (if (Value.ref d == Value.none) = true then _ else _) _ _ s
 have nn : ¬ ((Value.ref d == Value.none) = true) := Bool.false_ne_true
 rw [if_neg nn]
 refine wpAny_bind (wpAny_pure (wpAny_bind (wpAny_dictEntries g1 g3 ?_)))
 rw [if_neg (by simp)]
 refine wpAny_bind (wpAny_pure (wpAny_bind (wpAny_dictEpoch g1 g3 ?_)))
 rw [if_neg (by simp)]
 refine wpAny_pure ?_
 have neg : ¬ ((i : Int) < 0) := by omega
 simp only [neg, if_false, Int.toNat_natCast, Array.getElem?_eq_getElem lt]
 refine wpAny_bind (wpAny_bind (wpAny_typeNameOfWhole_keyiter ty (wpAny_pure (wpAny_bind (wpAny_isOneOf_keyiter ty ?_)))))
 show wpAny _ _ (setField (.ref it) 1 (rawInt ((i : Int) + 1)) >>= _) _ _ s
 let h2 := s.heap.update it (Obj.mapFields (·.setIfInBounds 1 (rawInt ((i : Int) + 1))))
 have it2 : h2.IsKeyIter it d (i + 1) es.size ep :=
  ⟨_, Heap.get?_update_self _ i1 (Obj.isFreed_of_fields (Obj.data_mapFields i3 _)), (Obj.cls_mapFields ..).trans i2, by rw [Obj.data_mapFields i3]; simp [rawInt]⟩
 refine wpAny_bind (wpAny_setField i1 i3 (by simp) (wpAny_bind (wpAny_holding (wpAny_bind (wpAny_isOneOf_keyiter (s := { s with heap := h2 }) it2.typeIs ?_)))))
 show wpAny _ _ (pure es[i].key) _ _ _
 exact wpAny_pure (wpAny_pure ⟨_, rfl, wpAny_pure (q h2 it2 (Heap.SameBut.update ..))⟩)
theorem Zsu {d it : Addr} {ob : Obj} {es : Array DictEntry} {i ep : Nat} {Q : Option Value -> Shared -> Prop} (hh : A.handled = none) (hit : s.heap.IsKeyIter it d i es.size ep) (g1 : s.heap.get? d = some ob) (g3 : ob.data = .dict es ep) (ge : es.size ≤ i)
  (q : ∀ h2, Heap.ExtBut it s.heap h2 -> Q none { s with heap := h2 }) : wpAny (model prog w) A (pyNext (.ref it)) Q E s := by
 have ty := hit.typeIs
 obtain ⟨oi, i1, i2, i3⟩ := id hit
 have own : Builtin.Dict_items.ownsTuple "dict_keyiterator" = false := by decide
 unfold pyNext
 refine wpAny_bind (wpAny_attempt (wpAny_callSpecial?_slot (name := Str.ofString "__next__") ty F.slot_dict_keyiterator_next (wpAny_call_entry F.slot_dict_keyiterator_next ty F.entry_dict_keyiterator_next ?_ (F.args_dict_keyiterator_next_1 _))))
 refine wpAny_bind (wpAny_pure (wpAny_bind (wpAny_bind ?_)))
 refine wpAny_bind (wpAny_typeNameOfWhole_keyiter ty (wpAny_pure (wpAny_bind (wpAny_fieldsOf i1 i3 ?_))))
 simp only [own, Bool.false_eq_true, if_false]
 show wpAny _ _ (if (Value.ref d == Value.none) = true then _ else _) _ _ s
 have nn : ¬ ((Value.ref d == Value.none) = true) := Bool.false_ne_true
 rw [if_neg nn]
 refine wpAny_bind (wpAny_pure (wpAny_bind (wpAny_dictEntries g1 g3 ?_)))
 rw [if_neg (by simp)]
 refine wpAny_bind (wpAny_pure (wpAny_bind (wpAny_dictEpoch g1 g3 ?_)))
 rw [if_neg (by simp)]
 refine wpAny_pure ?_
 have neg : ¬ ((i : Int) < 0) := by omega
 simp only [neg, if_false, Int.toNat_natCast, Array.getElem?_eq_none ge]
 refine wpAny_bind (wpAny_bind (wpAny_typeNameOfWhole_keyiter ty (wpAny_pure ?_)))
 show wpAny _ _ (setField (.ref it) 0 .none >>= _) _ _ s
 refine wpAny_bind (wpAny_setField i1 i3 (by simp) ?_)
 show wpAny _ _ (newExc (.type "StopIteration") [] >>= _) _ _ _
 simp only [newExc, newTuple]
 refine wpAny_bind (wpAny_bind (wpAny_newObj_type (wpAny_bind (m := firstArgMember _ _) (wpAny_of_eq (a := Value.none) (by first | rfl | (simp only [firstArgMember]; rfl)) (wpAny_newObj_type ?_ (by size_fits)))) (by size_fits)))
 simp only [raiseNew]
 refine wpAny_bind (wpAny_handled ?_)
 have hh1 : A.in1.handled = none := hh
 rw [hh1]
 refine wpAny_bind (wpAny_pure (wpAny_throw ?_))
 refine wpAny_bind (wpAny_isInstance (T := "StopIteration") (b := true) (by exact ⟨_, Heap.get?_push_size _ rfl, rfl⟩) isSubtype_stop ?_)
 exact wpAny_pure (q _ (((Heap.SameBut.update ..).extBut.push _).push _))
end
noncomputable def Itd (a : Addr) (ob : Obj) (u : HO) (ks : List Addr) : It :=
 ⟨fun i H => H a = some (.frz ob u) ∧ i < ks.length, fun i H x H' => H' = H ∧ ∃ b, ks[i]? = some b ∧ x = .ref b, fun i H => H a = some (.frz ob u) ∧ ks.length ≤ i⟩
theorem Zt0 {P : Program} {w : World} {K : PySem.W.Frag} {tg : Expr} (a it : Addr) {ob : Obj} {u : HO} {es : Array DictEntry} {ep : Nat} {ks : List Addr} (g3 : ob.data = .dict es ep) (hk : es.toList.map (·.key) = ks.map Value.ref) :
  Turn P w K tg (Itd a ob u ks) [it] it (fun i h => h.IsKeyIter it a i es.size ep) where
 mem := by simp
 obj := fun i h st b hb => by
  have e : b = it := by simpa using hb
  subst e
  obtain ⟨o, e, c, d⟩ := st
  exact ⟨o, e, fun v z => by rw [d] at z; cases z⟩
 keep := fun i h h' st k => st.at fun o e => k it (by simp) o e
 item := by
  intro X hP hw hK hc i pins s σ H E I hf st hg
  subst hP hw hK
  obtain ⟨hq, hx⟩ := hg
  obtain ⟨g1, _⟩ := (show Zcr X.prog X.w H s.heap a (.frz ob u) from I.hok a _ hq)
  obtain ⟨f0, f1, f2, f3, f4, f5⟩ := hf it (by simp)
  have hl : es.size = ks.length := by
   have := congrArg List.length hk
   simpa using this
  have lt : i < es.size := by omega
  have key : es[i].key = Value.ref ks[i] := by
   have e1 : (es.toList.map (·.key))[i]? = some es[i].key := by simp [lt]
   rw [hk, List.getElem?_map, List.getElem?_eq_getElem hx] at e1
   exact (Option.some.inj e1).symm
  refine Zvr st g1 g3 lt fun h' st' sb => ?_
  have I1 : Inv X pins σ H { s with heap := h' } := I.turned (t' := s.toks) (fun b o hb e => (sb.2 b hb).trans e) f0 f1 f3 f4 f5
  obtain ⟨o, e, c, d⟩ := id st'
  exact ⟨_, rfl, Zqj (s := { s with heap := h' }) e c d (by decide) ⟨.ref ks[i], H, I1, key, ⟨rfl, ks[i], List.getElem?_eq_getElem hx, rfl⟩, st', fun b hb => (hf b hb).1⟩⟩
 done := by
  intro X hP hw hK hc i pins s σ H E I hf st hg
  subst hP hw hK
  obtain ⟨hq, hx⟩ := hg
  obtain ⟨g1, _⟩ := (show Zcr X.prog X.w H s.heap a (.frz ob u) from I.hok a _ hq)
  obtain ⟨f0, f1, f2, f3, f4, f5⟩ := hf it (by simp)
  have hl : es.size = ks.length := by
   have := congrArg List.length hk
   simpa using this
  exact Zsu (I.ok.hd hc) st g1 g3 (by omega) fun h' eb => ⟨rfl, I.turned (t' := s.toks) (fun b o hb e => eb b o hb e) f0 f1 f3 f4 f5⟩
 self := fun _ _ _ _ _ st h => wpAny_pyIter_keyiter st h
variable {X : Cx} {tg : Expr}
noncomputable def iDic (f : EF) : ItF := fun σ H => (f σ H).bind fun p => match p.1 with
 | .ref n => match p.2[n]? with
  | some (.dic kvs _) => some ((kvs.map (·.1), [(n, .dic kvs true)]), p.2.set n (.dic kvs true))
  | _ => none
 | _ => none
theorem Zrb {K : PySem.W.Frag} {H : Hp} {ι : List Addr} {kvs : List (D × D)} {xs : List (List Int × Addr × Value)} (h : Paired (Zox K H ι) kvs xs) : Paired (Rep K H ι) (kvs.map (·.1)) (xs.map fun x => V.ref x.2.1) := by
 induction h with
 | nil => exact .nil
 | cons r t ih => exact .cons r.2.1 ih
theorem Zw5 {l : Expr} {f : EF} (hl : PEf X l f) : PIf X tg l (iDic f) := by
 rintro pins s σ H R I ⟨ι, σd, Hd, xs, own, Hd', sr, hr, e, q⟩
 obtain ⟨⟨x, H1⟩, e1, e⟩ := Zo e
 obtain ⟨n, rfl⟩ : ∃ n, x = .ref n := by cases x <;> first | exact ⟨_, rfl⟩ | cases e
 let P1 : VK := fun v1 H1' => ∃ ι1, Le X.K H ι H1' ι1 ∧ HRep X.K H1' ι1 H1 ∧ Rep X.K H1' ι1 (.ref n) v1
 refine thn (hl pins s σ H P1 I ⟨ι, σd, Hd, .ref n, H1, sr, hr, e1, fun v1 H1' ι1 l1 h1 r1 => ⟨ι1, l1, h1, r1⟩⟩) fun v s1 zz => ?_
 obtain ⟨xv, H1', I1, rx, ι1, l1, h1, r1⟩ := zz
 simp only at e
 split at e
 ·rename_i kvs fz hn
  cases e
  obtain ⟨a, rfl, ha⟩ := Zan.mp r1
  cases rx
  obtain ⟨z1, z2, ys, z3, PK, dd⟩ := Zhb I1 (h1.obj n a _ ha hn)
  obtain ⟨ob, es, ep, g1, g2, g3, g4, g5, g6⟩ := dd
  refine Zs0 z1 g1 g2 g3 ?_
  let u : HO := .ext (Zcl a ys)
  let H2 : Hp := upd H1' a (.frz ob u)
  have keys : es.toList.map (·.key) = (ys.map fun x => x.2.1).map Value.ref := by rw [g4, List.map_map, List.map_map]; rfl
  have da : Zcl a ys s1.heap := ⟨ob, es, ep, g1, g2, g3, g4, g6⟩
  have okN : ∀ Hx, Zcr X.prog X.w Hx s1.heap a (.frz ob u) := fun Hx => ⟨g1, da, ⟨ob, g1⟩, fun h1 h2 d k => Zcl.keep d k⟩
  have froz : Inv X pins σ H2 s1 ∧ Le X.K H1' ι1 H2 ι1 := by
   cases fz with
   | false =>
    rw [if_neg (by simp)] at z3
    exact ⟨I1.write (t' := s1.toks) (h' := s1.heap) (x := a) (e := a) (by rw [z3]; exact True.intro) (.inl rfl) (fun b q hb z => z) ⟨ob, g1⟩ (okN _), Le.upd (List.mem_of_getElem? ha) z3 trivial _⟩
   | true =>
    rw [if_pos rfl] at z3
    obtain ⟨o2, z3⟩ := z3
    obtain ⟨g1', _⟩ := (show Zcr X.prog X.w H1' s1.heap a (.frz o2 (.ext (Zcl a ys))) from I1.hok a _ z3)
    have eo : o2 = ob := Option.some.inj (g1'.symm.trans g1)
    have eH : H2 = H1' := by
     funext b
     by_cases hb : b = a
     ·subst hb; show upd H1' b (.frz ob u) b = H1' b; rw [Zaq, z3, eo]
     ·exact Zak hb
    rw [eH]
    exact ⟨I1, Le.refl⟩
  obtain ⟨I2, L2'⟩ := froz
  have hr2 : HRep X.K H2 ι1 (H1.set n (.dic kvs true)) := by
   refine ⟨by simp [h1.len], h1.nd, fun m b oc m1 m2 => ?_⟩
   by_cases hm : n = m
   ·subst hm
    rw [ha] at m1; cases m1
    rw [List.getElem?_set] at m2
    rw [if_pos rfl] at m2
    split at m2
    ·cases m2
     exact ⟨z1, z2, ys, by rw [if_pos rfl]; exact ⟨ob, Zaq⟩, Prd.imp PK fun p x _ z => ⟨z.1, z.2.1.mono L2', let ⟨v, w1, w2⟩ := z.2.2; ⟨v, w1, w2.mono L2'⟩⟩⟩
    ·cases m2
   ·rw [List.getElem?_set_ne hm] at m2
    have hb : b ≠ a := fun z => by
     subst z
     exact hm ((List.getElem?_inj (List.getElem?_eq_some_iff.mp ha).1 h1.nd).mp (ha.trans m1.symm))
    exact (h1.obj m b oc m1 m2).step L2'.toLw (Zak hb)
  have I3 : Inv X pins σ H2 { s1 with heap := s1.heap.push { cls := .type "dict_keyiterator", data := .fields #[.ref a, .int 0 0, .int es.size 0, .int ep 0] } } := I2.kept (t' := s1.toks) fun b o e => Heap.get?_push_of_some _ e
  refine ⟨s1.heap.objs.size, [s1.heap.objs.size], _, Itd a ob u (ys.map fun x => x.2.1), H2, rfl, I3, Zt0 a _ g3 keys, ⟨_, Heap.get?_push_size _ rfl, rfl, rfl⟩, fun b hb => ?_, ?_⟩
  ·have e : b = s1.heap.objs.size := by simpa using hb
   subst e
   exact I2.fpOk (Nat.le_refl _) (I2.hok.fresh (Nat.le_refl _))
  ·have fa : H2 a = some (.frz ob u) := Zaq
   have pk := Zrb PK
   refine q _ H2 ι1 (l1.trans L2') hr2 ⟨fun i H3 ι3 Hd3 l3 h3 _ hi => ⟨l3.fr _ _ _ fa, ?_⟩, fun i H3 ι3 Hd3 d x H4 l3 h3 _ hd y => ?_, fun i H3 ι3 Hd3 l3 h3 _ hi => ⟨l3.fr _ _ _ fa, ?_⟩⟩
   ·have := Prd.len PK; simp only [List.length_map] at hi ⊢; omega
   ·obtain ⟨rfl, b, hb, rfl⟩ := y
    obtain ⟨v, hv, rv⟩ := Prd.get pk hd
    have ev : v = .ref b := by
     rw [List.getElem?_map] at hv hb
     cases hy : ys[i]? with
     | none => rw [hy] at hv; cases hv
     | some yv => rw [hy] at hv hb; cases hv; cases hb; rfl
    subst ev
    exact ⟨ι3, Le.refl, h3, (rv.mono L2').mono l3⟩
   ·have := Prd.len PK; simp only [List.length_map] at hi ⊢; omega
 ·cases e
noncomputable def Zv2 (n N : Nat) (b : FF -> SF) : Nat -> FF
 | 0 => Za5 n N fun _ _ => none
 | j + 1 => Za5 n N (b (Zv2 n N b j))
theorem Zuh {P : Program} {w : World} {K : PySem.W.Frag} {mg : Str -> Option Value} {base : Heap} {x : Str} {st : Stmt} {N ps : List Str} {k : Nat} {b : FF -> SF} (T : Tf K mg x st) (S : FnScope N ps (Zad st))
  (hbd : ∀ (kV doc pm : Value) (an : Option Addr) (cdv ct : Value) (us : List Value), us.length = ps.length -> bindArgs (PySem.W.fnOf x x (Zcs st) (Zbc st) (Zad st) .none kV doc pm an cdv ct) ⟨us, []⟩ = pure (ps.zip us))
  (hb : ∀ (F : FF) (j : Nat), Fn P w K mg base (k + 1 + j) x ps F -> ∀ (f : Addr) (cdv : Value) (A : Around) (outer : List Env) (s : Shared) (H : Hp) (E : XK), Room (k + 1 + j) (A.deeper (envOfC x (Zad st) s.heap.objs.size f cdv)) →
   Zna (Zey CX0 P w K mg base N x (Zad st) f cdv A outer s H E).nox (Zbc st) (b F)) : ∀ j, Fn P w K mg base (k + 1 + j) x ps (Zv2 ps.length N.length b j)
 | 0 => Zbr (k := k) T S hbd fun f cdv A outer s H E _ => by
  rintro pins s' σ H' E' I ⟨ι, σd, Hd, fl, σd', Hd', _, _, e, _⟩
  cases e
 | j + 1 => Zbr (k := k + 1 + j) T S hbd fun f cdv A outer s H E hr => hb _ j (Zuh T S hbd hb j) f cdv A outer s H E hr
theorem Zq7 {K : PySem.W.Frag} {h : Heap} {mg : Str -> Option Value} {x : Str} {b1 b2 : Bool} {p : Addr} {n : Nat} {osl : Array (Option Value)} (X : K.In h) (G : h.Ns mainGlobals mg) (a : PySem.W.nsIn K mainGlobals x = some (some (.ref p)))
  (l : K.lookup p = some ⟨.type "tuple", none, .seq #[.bool b1, .bool b2] n, osl⟩) : Gc K mg x (.tup [.bl b1, .bl b2]) := by
 refine ⟨_, .ref p, PySem.W.mg_of X G a, rfl, fun H ι => Zbd.mpr ⟨p, [.bl b1, .bl b2], rfl, .inr ⟨_, _, _, l, rfl, rfl, ?_, ?_, rfl⟩, ?_⟩⟩
 ·show 2 ≤ sizeLine
  rw [PySem.sizeLine_eq]; omega
 ·exact .cons rfl (.cons rfl .nil)
 ·exact .cons (by simp) (.cons (by simp) .nil)
section
variable {prog : Program} {w : World} {A : Around} {E : Value -> Shared -> Prop} {s : Shared}
theorem Zw4 {T newId : String} {self a : Value} {kw : List (Str × Value)} (hl : typeLookup (.type T) "__init__" = pure (some (.builtin "object.__init__")))
  (hm : Bind.madeBy (.type T) = pure (some newId)) (hne : (some newId != some "object.__new__") = true) :
  Meets (Builtin.«object.__init__» ⟨[self, a], kw⟩) (fun _ R s => s.TypeIs self T ∧ R (.ok (.ret .none)) s) := by
 refine Meets.of_wp fun prog w A R s zz => ?_
 obtain ⟨hT, hq⟩ := zz
 repeat (any_goals (first | assumption | wp_step))
 exact ⟨_, rfl, hq⟩
theorem tc_kw (a v : Value) : checkTypeCall "enumerate" ⟨[a], [("start", v)]⟩ = pure () := by kernel_rfl
theorem nc_kw (a v : Value) : checkBuiltinCall "enumerate.__new__" ⟨[.type "enumerate", a], [("start", v)]⟩ = pure () := by kernel_rfl
open AutoSeq1 (wpAny_loadPart') in
theorem Zq2 (t : Addr) (its : Array Value) (n : Nat) (dct : Option Addr) (sl : Array (Option Value)) (tk0 : Tok) :
  Meets (Builtin.«enumerate.__new__» ⟨[.type "enumerate", .ref t], [("start", .int 1 tk0)]⟩) (fun _ R s => s.heap.get? t = some { cls := .type "tuple", dict := dct, data := .seq its n, slots := sl } ∧
   R (.ok (.ret (.ref (s.heap.push { cls := .type "tuple_iterator", data := .fields #[.ref t, .int 0 0] }).objs.size)))
    { s with heap := (s.heap.push { cls := .type "tuple_iterator", data := .fields #[.ref t, .int 0 0] }).push { cls := .type "enumerate", data := .fields #[.none, .bool false, .ref s.heap.objs.size, rawInt 1, .none, .none] } }) :=
 .of_wp fun prog w A R s h => by
  obtain ⟨hp, g, d, tk, os⟩ := s; obtain ⟨hl, h⟩ := h
  have hsub := sub_enumerate
  have hL : Heap.IsTuple (Shared.heap ⟨hp, g, d, tk, os⟩) t its := ⟨_, hl, rfl, n, rfl⟩
  wp_walk using wpAny_loadPart' hl
  refine wpAny_stack_any fun st => wpAny_pure ?_
  split
  ·rename_i k _ _ _ _ _
   cases (k == Value.type "enumerate") <;> (wp_walk using wpAny_loadPart' hl, wpAny_pyIter_tuple hL; exact ⟨_, rfl, h⟩)
  ·wp_walk using wpAny_loadPart' hl, wpAny_pyIter_tuple hL
   exact ⟨_, rfl, h⟩
end
section
variable {prog : Program} {w : World} {A : Around} {E : Value -> Shared -> Prop} {s : Shared}
theorem Zw6 {args : List Value} {kw : List (Str × Value)} {newId : String} {Bn : Builtin} {T : String} {S : PySem.Spec} {Q : Value → Shared → Prop} (ft : TypeCalled T newId "object.__init__") (hne : (some newId != some "object.__new__") = true)
  (hct : checkTypeCall T ⟨args, kw⟩ = pure ()) (hcn : checkBuiltinCall newId ⟨.type T :: args, kw⟩ = pure ()) (entryN : entryFor table newId = some Bn) (g : Meets (Bn ⟨.type T :: args, kw⟩) S)
  (hok : ∀ obj, argsOk "object.__init__" ⟨obj :: args, kw⟩) (gi : ∀ obj, Meets (Builtin.«object.__init__» ⟨obj :: args, kw⟩) (fun _ R s => s.TypeIs obj T ∧ R (.ok (.ret .none)) s))
  (h : S A.in1 (wants (fun obj s₁ => s₁.TypeIs obj T ∧ Q obj s₁) E) s) : wpAny (model prog w) A (call (.type T) args kw) Q E s := by
 obtain ⟨c, tl, hmro⟩ := ft.mro
 have hmade := ft.made
 have hsub := ft.sub
 have n1 := ft.notType
 have n2 := ft.canCreate
 refine wpAny_call (codeAny_of_tree (show wpAny _ _ (callAny (.type T) _) _ _ _ from wpAny_pure ⟨Code.quiet_builtin _ (by decide +kernel), codeAny_builtin F.entry_type_call ?_⟩))
 rw [Around.under_plain (weight_type_call_type T args kw) (units_type_call_type T args kw)]
 repeat (any_goals (first | assumption | wp_step))
 refine codeAny_mono (codeAny_call_builtin ft.plain entryN (wpAny_of_eq hcn (g prog w A.in1 _ s h))) fun r s₁ hr => ?_
 cases r with
 | error e => exact hr
 | ok fl =>
  cases fl with
  | ret obj =>
   obtain ⟨hT, hq⟩ : s₁.TypeIs obj T ∧ Q obj s₁ := hr
   have hli := ft.init.lookup
   have hbi := ft.init.bind obj
   repeat (any_goals (first | assumption | wp_step))
   refine codeAny_mono (codeAny_call_builtin ft.init.plain F.entry_object_init (ft.init.check _ _ _ _ _ _ _ _ hT (hok obj) (gi obj prog w A.in1 (wants (fun r s₂ => r = .none ∧ Q obj s₂) E) s₁ ⟨hT, rfl, hq⟩))) fun r₂ s₂ hr₂ => ?_
   cases r₂ with
   | error e => exact hr₂
   | ok fl₂ =>
    cases fl₂ with
    | ret r =>
     obtain ⟨rfl, hq2⟩ := hr₂
     repeat (any_goals (first | assumption | wp_step))
    | _ => exact hr₂.elim
  | _ => exact hr.elim
theorem Zih {M : Model} {pos : Pos} {T : String} {args : List (Bool × Sem Value)} {kws : List (Option Str × Sem Value)} {Q : Value -> Shared -> Prop} (h1 : args.any (·.1) = false) (h2 : kws.any (·.1.isNone) = false)
  (h : wpAny M A (evalArgs (.type T) true args kws) (fun a s₁ => wpAny M A (call (.type T) a.pos a.kw) Q E s₁) E s) : wpAny M A (callWith pos (.type T) [] args kws) Q E s := by
 unfold callWith
 refine wpAny_bind (wpAny_holding (thn h fun a s₁ q => wpAny_bind (wpAny_standAt ?_)))
 simp only [h1, h2, Bool.or_false]
 exact wpAny_bind (wpAny_pure (wpAny_bind (thn q fun r s₂ q2 => wpAny_bind (wpAny_holding (wpAny_point (wpAny_pure q2))))))
theorem Zp0 (a b v : Value) : argsOk "object.__init__" ⟨[a, b], [("start", v)]⟩ := by
 unfold argsOk
 first | decide +kernel | kernel_rfl | (intro _; kernel_rfl)
theorem Znz {t : Addr} {its : Array Value} {tk : Tok} {Q : Value -> Shared -> Prop} (hL : s.heap.IsTuple t its)
  (h : ∀ h', IsEnum h' (s.heap.objs.size + 1) s.heap.objs.size 1 .none -> h'.IsTupleIter s.heap.objs.size t 0 -> h'.objs.size = s.heap.objs.size + 2 →
   (∀ b o, s.heap.get? b = some o -> h'.get? b = some o) -> Q (.ref (s.heap.objs.size + 1)) { s with heap := h' }) :
  wpAny (model prog w) A (call (.type "enumerate") [.ref t] [("start", .int 1 tk)]) Q E s := by
 obtain ⟨⟨k, dct, dt, sl⟩, hl, hc, n, hd⟩ := hL
 replace hc : k = .type "tuple" := hc
 replace hd : dt = .seq its n := hd
 subst hc hd
 refine Zw6 F.called_enumerate (by decide) (tc_kw _ _) (nc_kw _ _) F.entry_enumerate_new (Zq2 t its n dct sl tk) (fun obj => Zp0 _ _ _) (fun obj => Zw4 F.called_enumerate.init.lookup F.called_enumerate.made (by decide)) ⟨hl, ?_⟩
 have hz : (s.heap.push { cls := .type "tuple_iterator", data := .fields #[.ref t, .int 0 0] }).objs.size = s.heap.objs.size + 1 := Heap.size_push ..
 show _ ∧ _
 rw [hz]
 have he : IsEnum ((s.heap.push { cls := .type "tuple_iterator", data := .fields #[.ref t, .int 0 0] }).push { cls := .type "enumerate", data := .fields #[.none, .bool false, .ref s.heap.objs.size, rawInt 1, .none, .none] }) (s.heap.objs.size + 1) s.heap.objs.size 1 .none := by
  have q := Heap.get?_push_size (s.heap.push { cls := .type "tuple_iterator", data := .fields #[.ref t, .int 0 0] }) (o := { cls := .type "enumerate", data := .fields #[.none, .bool false, .ref s.heap.objs.size, rawInt 1, .none, .none] }) rfl
  rw [hz] at q; exact q
 exact ⟨⟨_, he, rfl⟩, h _ he ⟨_, Heap.get?_push_of_some _ (Heap.get?_push_size _ rfl), rfl, rfl⟩ (by rw [Heap.size_push, hz]) fun b o x => Heap.get?_push_of_some _ (Heap.get?_push_of_some _ x)⟩
end
variable {X : Cx}
noncomputable def Zns (f : AF) : ItF := fun σ H => (f σ H).bind fun p => match p.1 with
 | [.tup xs] => some ((Zex 1 xs, []), p.2)
 | _ => none
theorem Zrg {es : List Expr} {k : Nat} {tp p pos kp cp : Pos} {cj : Nat} {a : Expr} {f : AF} (hg : Gl X "enumerate") (hm : X.mg "enumerate" = none) (ha : PAf X [a] f) (hs : starEach [a] X.env = [(false, eval a X.env)] := by rfl) :
  PIf X (.Tuple es k tp) (.Call (.Name "enumerate" p) [a] [⟨some "start", .Constant (.int 1) cj cp, kp⟩] pos) (Zns f) := by
 rintro pins s σ H R I ⟨ι, σd, Hd, xs, own, Hd', sr, hr, e, q⟩
 obtain ⟨⟨ds, H1⟩, e1, e⟩ := Zo e
 dsimp only at e
 split at e
 ·rename_i ys
  cases e
  show wpAny _ _ (do callWith pos (← eval (.Name "enumerate" p) X.env) [] (backTo pos (starEach [a] X.env)) (backToKw pos (keywordEach [⟨some "start", .Constant (.int 1) cj cp, kp⟩] X.env))) _ _ _
  let P1 : List V -> Hp -> Prop := fun vs H' => ∃ ad ws, vs = [.ref ad] ∧ SqT X.K H' ad ws ∧ ∀ (J : It) (H2 : Hp), H2 = H' -> J = Zx9 X.K 1 ad -> R J H2
  refine wpAny_bind (Zfw I hg hm boot_enumerate (Zih (by rw [hs]; rfl) rfl ?_))
  have hA := ha pos pins s σ H P1 I ⟨ι, σd, Hd, _, _, sr, hr, e1, fun vs H' ι' l h P => by
   obtain ⟨v, rfl, r⟩ := Zj7 P
   obtain ⟨ad, ws, rfl, hS, P2⟩ := Zbd.mp r
   refine ⟨ad, ws, rfl, hS, fun J H2 e2 e3 => ?_⟩
   subst e2 e3
   exact q _ _ ι' l h (Zm8 hS P2 fun i H x y h => y ws h)⟩
  rw [hs] at hA ⊢
  refine evalArgs_kwB rfl (thn hA fun us s1 zz => ?_)
  obtain ⟨vs, H2, I2, r2, ad, ws, e2, hS, q2⟩ := zz
  subst e2
  obtain ⟨u, rfl, ru⟩ := Zg0 r2
  cases ru
  refine kws_cons (thn (Zuu pins s1 σ H2 (fun x H' => x = .int 1 ∧ H' = H2) I2 ⟨rfl, rfl⟩) fun v s2 ⟨x, H3, I3, rx, ex, eH⟩ => kws_nil ?_)
  subst ex eH
  obtain ⟨t, rfl⟩ := rx
  obtain ⟨its, rv, p, hz⟩ := I3.tuple hS
  show wpAny _ _ (call (.type "enumerate") [.ref ad] [("start", .int 1 t)]) _ _ _
  refine Znz (show s2.heap.IsTuple ad its.toArray from p) fun h' he hj z' kk => ?_
  have I4 : Inv X pins σ H3 { s2 with heap := h' } := I3.kept (t' := s2.toks) kk
  refine wpAny_pyIter_enum (s := { s2 with heap := h' }) he ?_
  have ne : s2.heap.objs.size + 1 ≠ s2.heap.objs.size := Nat.succ_ne_self _
  refine ⟨s2.heap.objs.size + 1, [s2.heap.objs.size + 1, s2.heap.objs.size], _, Zx9 X.K 1 ad, H3, rfl, I4, Zin ad _ _ 1 ne, ⟨.none, by simpa using he, hj⟩, fun b hb => ?_, q2 _ _ rfl rfl⟩
  have : s2.heap.objs.size ≤ b := by
   rcases List.mem_cons.mp hb with rfl | hb
   ·exact Nat.le_succ _
   ·have : b = s2.heap.objs.size := by simpa using hb
    rw [this]; exact Nat.le_refl _
  exact I3.fpOk (b := b) (H' := H3) this (I3.hok.fresh this)
 ·cases e
noncomputable def Itv (K : PySem.W.Frag) (a : Addr) (n : Nat) : It :=
 ⟨fun i H => i < n ∧ ∃ xs, SqL K H a xs ∧ xs.length = n, fun i H x H' => H' = H ∧ ∀ xs, SqL K H a xs -> xs[n - 1 - i]? = some x, fun i _ => n ≤ i⟩
theorem Zs1 {P : Program} {w : World} {K : PySem.W.Frag} {tg : Expr} (a it : Addr) (n : Nat) : Turn P w K tg (Itv K a n) [it] it (fun i h => i ≤ n ∧ h.IsRevIter it a ((n : Int) - 1 - (i : Int))) where
 mem := by simp
 obj := fun i h st b hb => by
  have e : b = it := by simpa using hb
  subst e
  obtain ⟨_, o, e, c, d⟩ := st
  exact ⟨o, e, fun v z => by rw [d] at z; cases z⟩
 keep := fun i h h' st k => ⟨st.1, st.2.at fun o e => k it (by simp) o e⟩
 item := by
  intro X hP hw hK hc i pins s σ H E I hf st hg
  subst hP hw hK
  obtain ⟨hi, xs, hq, hx⟩ := hg
  obtain ⟨its, rv, p, hz⟩ := I.list hq
  obtain ⟨f0, f1, f2, f3, f4, f5⟩ := hf it (by simp)
  have lt : n - 1 - i < xs.length := by omega
  obtain ⟨u, hu, ru⟩ := rv.get (List.getElem?_eq_getElem lt)
  have e0 : (n : Int) - 1 - (i : Int) = ((n - 1 - i : Nat) : Int) := by omega
  have st2 := st.2
  rw [e0] at st2
  refine wpAny_pyNext_rev_item st2 p.isList (x := u) (by simpa using hu) fun h' st' sb => ?_
  have I1 : Inv X pins σ H { s with heap := h' } := I.turned (t' := s.toks) (fun b o hb e => (sb.2 b hb).trans e) f0 f1 f3 f4 f5
  obtain ⟨o, e, c, d⟩ := id st'
  have e1 : ((n - 1 - i : Nat) : Int) - 1 = (n : Int) - 1 - ((i + 1 : Nat) : Int) := by omega
  rw [e1] at st'
  exact ⟨u, rfl, Zqj (s := { s with heap := h' }) e c d (by decide) ⟨xs[n - 1 - i], H, I1, ru, ⟨rfl, fun ys hy => by rw [I.list_inj hy hq]; exact List.getElem?_eq_getElem lt⟩, ⟨by omega, st'⟩, fun b hb => (hf b hb).1⟩⟩
 done := by
  intro X hP hw hK hc i pins s σ H E I hf st hg
  subst hP hw hK
  obtain ⟨f0, f1, f2, f3, f4, f5⟩ := hf it (by simp)
  have hn : n ≤ i := hg
  have e0 : (n : Int) - 1 - (i : Int) = -1 := by have := st.1; omega
  have st2 := st.2
  rw [e0] at st2
  exact wpAny_pyNext_rev_end (I.ok.hd hc) st2 fun h' eb => ⟨rfl, I.turned (t' := s.toks) (fun b o hb e => eb b o hb e) f0 f1 f3 f4 f5⟩
 self := fun _ _ _ _ _ st h => wpAny_pyIter_revIter st.2 h
variable {X : Cx} {tg : Expr}
noncomputable def iRev (f : AF) : ItF := fun σ H => (f σ H).bind fun p => match p.1 with
 | [.ref n] => match p.2[n]? with
  | some (.lst xs) => some ((xs.reverse, [(n, .lst xs)]), p.2)
  | _ => none
 | _ => none
theorem Zld {a : Expr} {f : AF} {p pos : Pos} (hg : Gl X "reversed") (hm : X.mg "reversed" = none) (ha : PAf X [a] f) (hs : starEach [a] X.env = [(false, eval a X.env)] := by rfl) : PIf X tg (.Call (.Name "reversed" p) [a] [] pos) (iRev f) := by
 rintro pins s σ H R I ⟨ι, σd, Hd, xs, own, Hd', sr, hr, e, q⟩
 obtain ⟨⟨ds, H1⟩, e1, e⟩ := Zo e
 dsimp only at e
 split at e
 ·rename_i n
  split at e
  ·rename_i zs eo
   cases e
   let P1 : List V -> Hp -> Prop := fun vs H' => ∃ ι', Le X.K H ι H' ι' ∧ HRep X.K H' ι' Hd' ∧ Paired (Rep X.K H' ι') [.ref n] vs
   refine Call_ (Zfw I hg hm boot_reversed (PyProof.Rows.callWith_type1 (thn (ha pos pins s σ H P1 I ⟨ι, σd, Hd, _, _, sr, hr, e1, fun vs H' ι' l h P => ⟨ι', l, h, P⟩⟩) fun us s1 ⟨vs, H2, I2, r2, ι2, l2, h2, P⟩ => ?_) hs rfl))
   obtain ⟨v, rfl, r⟩ := Zj7 P
   obtain ⟨ad, rfl, had⟩ := Zan.mp r
   obtain ⟨u, rfl, ru⟩ := Zg0 r2
   cases ru
   obtain ⟨ws, hw, PW⟩ := h2.obj n ad _ had eo
   obtain ⟨its, rv, pl, hz⟩ := I2.list (SqL.of hw)
   have hl : its.toArray.size = zs.length := by rw [List.size_toArray, ← rv.length, Prd.len PW]
   refine call_reversed_list pl.isList ?_
   have it0 : ({ s1 with heap := s1.heap.push (revObj ad ((its.toArray.size : Int) - 1)) } : Shared).heap.IsRevIter s1.heap.objs.size ad ((zs.length : Int) - 1 - ((0 : Nat) : Int)) := ⟨_, Heap.get?_push_size _ rfl, rfl, by rw [hl]; simp [revObj]⟩
   have I3 : Inv X pins σ H2 { s1 with heap := s1.heap.push (revObj ad ((its.toArray.size : Int) - 1)) } := I2.kept (t' := s1.toks) fun b o e => Heap.get?_push_of_some _ e
   refine wpAny_pyIter_revIter it0 ⟨s1.heap.objs.size, [s1.heap.objs.size], _, Itv X.K ad zs.length, H2, rfl, I3, Zs1 ad _ _, ⟨Nat.zero_le _, it0⟩, fun b hb => ?_, ?_⟩
   ·have e : b = s1.heap.objs.size := by simpa using hb
    subst e
    exact I2.fpOk (Nat.le_refl _) (I2.hok.fresh (Nat.le_refl _))
   ·have now : ∀ {H3 : Hp} {ι3 : List Addr} {Hd3 : HD}, Le X.K H2 ι2 H3 ι3 -> HRep X.K H3 ι3 Hd3 -> Zcj [(n, DO.lst zs)] Hd3 -> ∃ ws, H3 ad = some (.lst ws) ∧ Paired (Rep X.K H3 ι3) zs ws := fun {H3 ι3 Hd3} l3 h3 ok => by
     have := ok (n, .lst zs) (by simp)
     exact h3.obj n ad _ (l3.get had) this
    refine q _ H2 ι2 l2 h2 ⟨fun i H3 ι3 Hd3 l3 h3 ok hi => ?_, fun i H3 ι3 Hd3 d x H4 l3 h3 ok hd y => ?_, fun i H3 ι3 Hd3 l3 h3 ok hi => (show zs.length ≤ i by simpa using hi)⟩
    ·obtain ⟨ws, w1, w2⟩ := now l3 h3 ok
     exact ⟨by simpa using hi, ws, SqL.of w1, (Prd.len w2).symm⟩
    ·obtain ⟨ws, w1, w2⟩ := now l3 h3 ok
     obtain ⟨rfl, y⟩ := y
     have hi : i < zs.length := by
      have := (List.getElem?_eq_some_iff.mp hd).1
      simpa using this
     rw [List.getElem?_reverse hi] at hd
     obtain ⟨u, hu, ru⟩ := Prd.get w2 hd
     have := y ws (SqL.of w1)
     rw [hu] at this
     cases this
     exact ⟨ι3, Le.refl, h3, ru⟩
  ·cases e
 ·cases e
section
variable {X : Cx} {e : Expr} {es : List Expr} {pos : Pos}
theorem Zoc {h : Heap} {vs : Array Value} {xs : List PyData} {as : List Addr} {d : PyData} (rs : ReadsAll h vs.toList xs as) (hxs : PyData.canLayAll0 xs = true) :
  vs.toList.countP (fun y => PyData.eqv (SeqAt.readOf h y) d) = xs.countP fun z => PyData.eqv z d := by
 have e := SeqAt.readsAll_map xs _ _ hxs rs
 rw [← e, List.countP_map]
 rfl
end
section
variable {X : Cx} {e : Expr} {pos : Pos}
noncomputable def Zx7 : SF := fun _ _ => none
theorem Zxc {st : Stmt} : PSf X st Zx7 := by
 rintro pins s σ H E I ⟨ι, σd, Hd, fl, σd', Hd', _, _, e, _⟩
 cases e
end
structure BlkOk2 (X : Cx) (scope : Scope) (x y : Str) (cn : List Str) (ci : List Nat) : Prop where
 kind : scope.kind = .function
 nocell : ∀ y ∈ scope.names, y.2 ≠ .cell
 names : ∀ y ∈ scope.names, y.2 = .local -> scope.names.lookup y.1 = some .local
 tgt : scope.names.lookup x = some .local
 tgt2 : scope.names.lookup y = some .local
 free : ∀ y ∈ scope.names, y.2 = .free -> (X.env.cells.lookup y.1).isSome = true
 nd : (x :: y :: cn).Nodup
 len : ci.length = cn.length
 cap : ∀ (j : Nat) (y : Str), cn[j]? = some y -> ∃ i, ci[j]? = some i ∧ X.N[i]? = some y ∧ scope.names.lookup y = some .free ∧ (X.env.kindOf y = some .cell ∨ X.env.kindOf y = some .free)
section
variable {X : Cx} {pins : List (Addr × Obj)} {σ : L2.St} {H : Hp} {s : Shared} {scope : Scope} {x y0 : Str} {cn : List Str} {ci : List Nat} {fp : List Addr}
theorem Zta {h₁ : Heap} {tk : Nat} {o₁ : Obj} (I : Inv X pins σ H s) (B : BlkOk2 X scope x y0 cn ci) (hf : ∀ b ∈ fp, Zl3 X pins H b) (hlt : ∀ b ∈ fp, b < s.heap.objs.size)
  (hns : h₁.Ns s.heap.objs.size (fun _ => none)) (hsb : Heap.SameBut s.heap.objs.size (s.heap.push o₁) h₁) :
  Inv (blk X scope (x :: y0 :: cn) (Zgw X.env scope.names []) s.heap.objs.size s H fp (X.pn ++ pins)) [] (none :: none :: Zif ci σ) H { s with heap := h₁, toks := tk } := by
 have old : ∀ b o, s.heap.get? b = some o -> h₁.get? b = some o := fun b o e => hsb.extBut b o (Nat.ne_of_lt (Heap.lt_size e)) (Heap.get?_push_of_some _ e)
 have sub := Zf1 X.env scope.names [] (by intro x c h; simp at h)
 have has : ∀ y, (y, NameKind.free) ∈ scope.names -> ∃ c, (Zgw X.env scope.names []).lookup y = some c := fun y hy =>
  Option.isSome_iff_exists.mp (Zi6 X.env scope.names [] y (.inr ⟨hy, B.free _ hy rfl⟩))
 refine ⟨⟨I.ok.mod, B.kind, I.ok.glob, I.ok.blt, Nat.le_refl _, fun y z c h1 h2 => I.ok.inj y z c (sub y c h1) (sub z c h2), fun y hy => has y (Zeo B.nocell hy), fun y c hy => absurd hy (by show ¬ (false = true); simp), I.ok.hd, I.ok.frames, .inl rfl,
   fun b hb => ⟨Nat.ne_of_lt (hlt b hb), fun y c e => (hf b hb).2.2.2.2.1 y c (sub y c e)⟩, I.bs, Nat.le_trans I.ok.bsz I.sz, fun b o e hb => ?_, fun b hb z => ?_, I.stack, I.stkFree⟩,
  rfl, I.bare, Un.kept old, ⟨_, hns, fun i y v h1 h2 h3 => ?_⟩, fun y c e => ?_, I.hok.fresh (Nat.le_refl _), fun y c e => I.freeC y c (sub y c e), fun p hp => ?_, I.hok.kept old, ?_⟩
 ·rcases (hf b hb).2.2.2.1 with z | z
  ·exact I.ok.noex b o e z
  ·exact absurd (Nat.lt_of_lt_of_le (Heap.lt_size e) (Nat.le_trans I.ok.bsz z)) (Nat.lt_irrefl _)
 ·exact (List.mem_cons.mp (I.stkSub b z)).elim (hf b hb).2.1 (hf b hb).2.2.1
 ·match i, h1, h2 with
  | 0, h1, h2 => simp at h2
  | 1, h1, h2 => simp at h2
  | j + 2, h1, h2 =>
   have h1' : cn[j]? = some y := by simpa [blk] using h1
   have h2' : (Zif ci σ)[j]? = some (some v) := by simpa using h2
   obtain ⟨i, e1, e2, e3, e4⟩ := B.cap j y h1'
   have e5 : σ[i]? = some (some v) := by
    unfold Zif at h2'
    rw [List.getElem?_map, e1] at h2'
    simp at h2'
    cases e : σ[i]? with
    | none => rw [e] at h2'; cases h2'
    | some o => rw [e] at h2'; simp at h2'; rw [h2']
   obtain ⟨m, hn, hl⟩ := I.loc
   have hv : Vis X.env.scope y := by
    rcases e4 with e4 | e4
    ·exact .inr (.inl e4)
    ·exact .inr (.inr e4)
   obtain ⟨u, r, l⟩ := hl i y v e2 e5 hv
   refine ⟨u, r, .inr ⟨Ze4 e3, ?_⟩⟩
   obtain ⟨c, ec⟩ := has y (PySem.mem_of_lookup e3)
   refine ⟨c, ec, ?_⟩
   rcases l with ⟨l, _⟩ | ⟨_, c', ec', hc⟩
   ·rcases e4 with e4 | e4 <;> rw [e4] at l <;> cases l
   ·rw [sub y c ec] at ec'
    cases ec'
    obtain ⟨ob, q1, q2⟩ := hc
    exact ⟨ob, old _ _ q1, q2⟩
 ·obtain ⟨v, ob, q1, q2⟩ := I.cell y c (sub y c e)
  exact ⟨v, ob, old _ _ q1, q2⟩
 ·have hp' : p ∈ X.pn ++ pins := by simpa [blk] using hp
  obtain ⟨q1, q2, q3, q4, q5⟩ := I.pin p hp'
  refine ⟨old _ _ q1, q2, Nat.ne_of_lt (Heap.lt_size q1), fun z => ?_, q5⟩
  exact (List.mem_cons.mp (I.stkSub p.1 z)).elim q3 q4
 ·simp [blk, Zif, B.len]
noncomputable def LcW2 (K : PySem.W.Frag) (J : It) (ci : List Nat) (tt : TT) (te : TE) (σ : L2.St) (Q : VK) (H1 : Hp) : Prop := ∀ p, H1 p = none -> ∃ W : Nat -> Nat -> List V -> Hp -> Prop, (∃ m, W 0 m [] (upd H1 p (.lst []))) ∧ ∀ i m ys H, W i m ys H →
 H p = some (.lst ys) ∧ ((J.stop i H ∧ Q (.ref p) H) ∨ (J.go i H ∧ ∀ v H', J.yld i H v H' -> ∃ a v1 v2, v = .ref a ∧ SqT K H' a [v1, v2] ∧ tt (some v1 :: some v2 :: Zif ci σ) H' fun b H2 =>
  if b = true then te (some v1 :: some v2 :: Zif ci σ) H2 fun y H3 => H3 p = some (.lst ys) ∧ ys.length < sizeLine ∧ ∃ m', m' < m ∧ W (i + 1) m' (ys ++ [y]) (upd H3 p (.lst (ys ++ [y])))
  else ∃ m', m' < m ∧ W (i + 1) m' ys H2))
theorem Zp4 {elt iter : Expr} {px py pt pos : Pos} {kt : Nat} {ifs : List Expr} {tt : TT} {te : TE} {Q : VK} {E : Value -> Shared -> Prop} {RR : Value -> Addr -> Result -> Shared -> Prop} {it : Addr} {tn : Nat -> Heap -> Prop} {J : It}
  (I : Inv X pins σ H s) (hc : X.calm = true) (B : BlkOk2 X scope x y0 cn ci) (T : Turn X.prog X.w X.K (.Tuple [.Name x px, .Name y0 py] kt pt) J fp it tn) (st : tn 0 s.heap) (hf : ∀ b ∈ fp, Zl3 X pins H b)
  (ht : ∀ cl C s H fp pn, PTs (blk X scope (x :: y0 :: cn) cl C s H fp pn) ifs tt) (he : ∀ cl C s H fp pn, PE (blk X scope (x :: y0 :: cn) cl C s H fp pn) elt te)
  (hw : LcW2 X.K J ci tt te σ Q H) (hRR : ∀ p C H' s', Inv X pins σ H' s' -> Gone X pins H' s' C -> Q (.ref p) H' -> RR (.ref p) C (.ok .next) s') :
  wpAny (model X.prog X.w) X.A (newList []) (fun acc s₃ => wpAny (model X.prog X.w) X.A (newFunctionEnv scope X.env.globals (Zgw X.env scope.names []) [] X.env.qual none .none (some X.env)) (fun cenv s₄ =>
   codeAny (model X.prog X.w) X.A (.compStart (.ListComp elt [⟨.Tuple [.Name x px, .Name y0 py] kt pt, iter, ifs, 0⟩] scope pos) 0 (.ref it) acc { cenv with scope := relabel scope X.env }) (RR acc cenv.locals) s₄) E s₃) E s := by
 have hp0 : H s.heap.objs.size = none := I.hok.fresh (Nat.le_refl _)
 obtain ⟨W, ⟨m0, w0⟩, turn⟩ := hw _ hp0
 refine wpAny_newObj_type (wpAny_newFunctionEnv B.nocell (by intro y hy; simp at hy) (fun h₁ hns₁ hsb₁ => ?_) B.kind)
 dsimp only at hns₁ hsb₁ ⊢
 have I3 : Inv X pins σ (upd H s.heap.objs.size (.lst [])) { s with heap := s.heap.push { cls := .type "list", dict := none, data := .seq ([] : List Value).toArray } } :=
  I.laid (t' := s.toks) (fun b u e => Heap.get?_push_of_some _ e) (Nat.le_refl _) ⟨Nat.zero_le _, [], 0, .nil, Heap.get?_push_size _ rfl⟩
 generalize hH3 : s.heap.push { cls := .type "list", dict := none, data := .seq ([] : List Value).toArray } = hp3 at hns₁ hsb₁ I3 ⊢
 have flt : ∀ b ∈ fp, b < s.heap.objs.size := fun b hb => by
  obtain ⟨o, e, _⟩ := T.obj 0 _ st b hb
  exact Heap.lt_size e
 have sz3 : hp3.objs.size = s.heap.objs.size + 1 := by rw [← hH3, Heap.size_push]
 have f3 : ∀ b ∈ fp, Zl3 X pins (upd H s.heap.objs.size (.lst [])) b := fun b hb => ⟨by rw [Zak (Nat.ne_of_lt (flt b hb))]; exact (hf b hb).1, (hf b hb).2⟩
 have old3 : ∀ b o, s.heap.get? b = some o -> hp3.get? b = some o := fun b o e => by rw [← hH3]; exact Heap.get?_push_of_some _ e
 have I4 := Zta (s := { s with heap := hp3 }) (tk := s.toks + ([] : List (Str × Value)).length) I3 B f3 (fun b hb => by show b < hp3.objs.size; rw [sz3]; exact Nat.lt_succ_of_lt (flt b hb)) (by simpa using hns₁) hsb₁
 have old4 : ∀ b o, hp3.get? b = some o -> h₁.get? b = some o := fun b o e => hsb₁.extBut b o (Nat.ne_of_lt (Heap.lt_size e)) (Heap.get?_push_of_some _ e)
 generalize hX' : blk X scope (x :: y0 :: cn) (Zgw X.env scope.names []) hp3.objs.size { s with heap := hp3 } (upd H s.heap.objs.size (.lst [])) fp (X.pn ++ pins) = X' at I4
 have ePr : X'.prog = X.prog := by rw [← hX']; rfl
 have eW : X'.w = X.w := by rw [← hX']; rfl
 have eK : X'.K = X.K := by rw [← hX']; rfl
 have eA : X'.A = X.A := by rw [← hX']; rfl
 have eEnv : X'.env = compEnvC scope (Zgw X.env scope.names []) hp3.objs.size X.env := by rw [← hX']; rfl
 have eEx : X'.ex = fp := by rw [← hX']; rfl
 have ht' : PTs X' ifs tt := by rw [← hX']; exact ht _ _ _ _ _ _
 have he' : PE X' elt te := by rw [← hX']; exact he _ _ _ _ _ _
 have eXe : X'.xe = fun _ _ => False := by rw [← hX']; rfl
 have hg' : PG X' (.Tuple [.Name x px, .Name y0 py] kt pt) (gTup X.K 2 (Zpj (Zka 0) (Zpj (Zka 1) gNil))) := by
  rw [← hX']
  exact Zu0 (X := blk X scope (x :: y0 :: cn) _ _ _ _ _ _) hc (Zjw (Zkd (X := blk X scope (x :: y0 :: cn) _ _ _ _ _ _) B.nd rfl (.inl (lookup_relabel_local B.tgt)) (.inr (lookup_relabel_local B.tgt))) (Zjw (Zkd (X := blk X scope (x :: y0 :: cn) _ _ _ _ _ _) B.nd rfl (.inl (lookup_relabel_local B.tgt2)) (.inr (lookup_relabel_local B.tgt2))) Zq0))
 -- the iterator's objects, seen from the block
 have stat : ∀ {H' : Hp}, (∀ b ∈ fp, H' b = none) -> ∀ b ∈ fp, Zl3 X' [] H' b := fun {H'} hn b hb => by
  rw [← hX']
  refine ⟨hn b hb, (by show b ≠ hp3.objs.size; rw [sz3]; exact Nat.ne_of_lt (Nat.lt_succ_of_lt (flt b hb))), fun z => (List.mem_cons.mp (I3.stkSub b z)).elim (hf b hb).2.1 (hf b hb).2.2.1, .inl hb, fun y c e => ?_, fun p hp => ?_⟩
  ·exact (hf b hb).2.2.2.2.1 y c (Zf1 X.env scope.names [] (by intro x c h; simp at h) y c e)
  ·exact (hf b hb).2.2.2.2.2 p (by simpa [blk] using hp)
 have back : ∀ {σ' : L2.St} {H' : Hp} {s' : Shared}, Inv X' [] σ' H' s' -> Inv X pins σ H' s' ∧ Gone X pins H' s' hp3.objs.size := fun {σ' H' s'} I5 => by
  have u : Un (frs X.stack) fp (upd H s.heap.objs.size (.lst [])) H' hp3 s'.heap := by
   have := I5.base
   rw [← hX'] at this
   exact this
  have hok : HOk X.prog X.w H' s'.heap := by have := I5.hok; rw [ePr, eW] at this; exact this
  have ho : s'.os = s.os := by have := I5.os; rw [← hX'] at this; exact this
  refine ⟨I3.call' ho u hok I5.bare fun b hb => ⟨(hf b hb).2.2.2.1, (hf b hb).2.1, (hf b hb).2.2.2.2.1, (hf b hb).2.2.2.2.2⟩, ?_, ?_, ?_, ?_, fun y c e z => ?_, fun p hp z => ?_⟩
  ·obtain ⟨m, hn, _⟩ := I5.loc
   rw [eEnv] at hn
   exact ⟨m, hn⟩
  ·have := I5.free
   rw [eEnv] at this
   exact this
  ·exact Nat.ne_of_gt (I3.lt)
  ·exact I3.sz
  ·obtain ⟨v, q⟩ := I3.cell y c e
   exact absurd (Nat.lt_of_lt_of_le q.lt (by rw [z]; exact Nat.le_refl _)) (Nat.lt_irrefl _)
  ·have := Heap.lt_size (I3.pin p hp).1
   rw [z] at this
   exact Nat.lt_irrefl _ this
 have loop : codeAny (model X.prog X.w) X.A (.compLoop (.ListComp elt [⟨.Tuple [.Name x px, .Name y0 py] kt pt, iter, ifs, 0⟩] scope pos) 0 (.ref it) (.ref s.heap.objs.size) (compEnvC scope (Zgw X.env scope.names []) hp3.objs.size X.env))
   (RR (.ref s.heap.objs.size) hp3.objs.size) { s with heap := h₁, toks := s.toks + ([] : List (Str × Value)).length } := by
  refine codeAny_loop rfl (fun n s' => ∃ i o o2 ys H', Inv X' [] (o :: o2 :: Zif ci σ) H' s' ∧ tn i s'.heap ∧ (∀ b ∈ fp, H' b = none) ∧ W i n ys H') (fun n s' hI => ?_) m0
   ⟨0, none, none, [], _, I4, T.keep _ _ _ st (fun b hb o e => old4 b o (old3 b o e)), fun b hb => (f3 b hb).1, w0⟩
  obtain ⟨i, o, o2, ys, H', I5, st5, fr5, w5⟩ := hI
  show wpAny _ X.A ((compTurn (.ListComp elt [⟨.Tuple [.Name x px, .Name y0 py] kt pt, iter, ifs, 0⟩] scope pos) 0 (.ref it) (.ref s.heap.objs.size) (compEnvC scope (Zgw X.env scope.names []) hp3.objs.size X.env)).onRaise (fun x => do noteFrame x (compEnvC scope (Zgw X.env scope.names []) hp3.objs.size X.env); theTreesLotGoes x)) _ _ s'
  refine wpAny_noted ?_
  rw [compTurn_list, ← eEnv, ← ePr, ← eW, ← eA]
  refine wpAny_mono (E := fun _ _ => False) ?_ (fun _ _ q => q) (fun _ _ z => z.elim)
  obtain ⟨hpl, wt⟩ := turn i n ys H' w5
  refine wpAny_bind (wpAny_standAt (wpAny_bind ?_))
  rcases wt with ⟨stop, q⟩ | ⟨go, step⟩
  ·have z := T.done X' ePr eW eK (by rw [← hX']; exact hc) i [] s' _ H' (fun _ _ => False) I5 (stat fr5) st5 stop
   rw [← ePr, ← eW] at z
   refine thn z fun r s6 zz => ?_
   obtain ⟨hr, I6⟩ := zz
   subst hr
   obtain ⟨J1, g1⟩ := back I6
   exact wpAny_pure (hRR _ _ H' s6 J1 g1 q)
  ·have z := T.item X' ePr eW eK (by rw [← hX']; exact hc) i [] s' _ H' (fun _ _ => False) I5 (stat fr5) st5 go
   rw [← ePr, ← eW] at z
   refine thn z fun r s6 zz => ?_
   obtain ⟨u, hr, h6⟩ := zz
   subst hr
   refine wpAny_bind (thn h6 fun _ s7 zz => ?_)
   obtain ⟨v, H7, I7, r7, y7, st7, fr7⟩ := zz
   have I7' := I7.pinned (stat fr7) (T.obj _ _ st7)
   rw [← eXe]
   obtain ⟨a7, v1, v2, ev, sq, step7⟩ := step v _ y7
   refine wpAny_bind (thn (hg' _ s7 _ H7 v u _ I7' r7 (show gTup X.K 2 (Zpj (Zka 0) (Zpj (Zka 1) gNil)) v (o :: o2 :: Zif ci σ) H7 (fun σ8 H8 => σ8 = some v1 :: some v2 :: Zif ci σ ∧ H8 = H7) from ⟨a7, [v1, v2], ev, sq, rfl, ⟨v1, [v2], rfl, v2, [], rfl, rfl, rfl, rfl⟩⟩)) fun _ s8 zz => ?_)
   obtain ⟨σ8, H8, I8, e8, e8'⟩ := zz
   subst e8 e8'
   refine wpAny_bind (thn (ht' _ s8 _ _ _ I8 step7) fun b s9 zz => ?_)
   obtain ⟨H9, I9, q9⟩ := zz
   have tnK : ∀ {σ' : L2.St} {H' : Hp} {s' : Shared}, Inv X' (([] : List (Addr × Obj)) ++ Ziu fp s7.heap) σ' H' s' -> tn (i + 1) s'.heap ∧ ∀ b ∈ fp, H' b = none := fun {σ' H' s'} I' =>
    ⟨T.keep _ _ _ st7 fun b hb o e => (I'.pin (b, o) (List.mem_append_right _ (List.mem_append_right _ (Zcw hb e)))).1, fun b hb => by
     obtain ⟨ob, e, d⟩ := T.obj _ _ st7 b hb
     exact (I'.pin (b, ob) (List.mem_append_right _ (List.mem_append_right _ (Zcw hb e)))).2.1⟩
   cases b with
   | false =>
    obtain ⟨m', hm, w9⟩ := q9
    obtain ⟨t9, f9⟩ := tnK I9
    exact wpAny_pure ⟨rfl, m', hm, i + 1, _, _, ys, H9, I9.unpinned, t9, f9, w9⟩
   | true =>
    refine wpAny_bind (wpAny_bind (thn (he' _ s9 _ _ _ I9 q9) fun yv s10 zz => ?_))
    obtain ⟨y, H10, I10, r10, hp10, hz10, m', hm, w10⟩ := zz
    refine wpAny_bind (thn (Zh9 (X := X') _ s10 _ H10 (.ref s.heap.objs.size) [y] (.ref s.heap.objs.size) [yv] (fun _ H11 => H11 = upd H10 s.heap.objs.size (.lst (ys ++ [y]))) I10 rfl (.cons r10 .nil) ⟨_, ys, y, rfl, rfl, hp10, hz10, rfl⟩) fun _ s11 zz => ?_)
    obtain ⟨_, H11, I11, _, e11⟩ := zz
    subst e11
    obtain ⟨t11, f11⟩ := tnK I11
    exact wpAny_pure (wpAny_pure ⟨rfl, m', hm, i + 1, _, _, ys ++ [y], _, I11.unpinned, t11, f11, w10⟩)
 exact codeAny_compStart_list loop (T.self _ 0 _ _ _ (T.keep _ _ _ st (fun b hb o e => old4 b o (old3 b o e))) loop)
noncomputable def tLC2 (K : PySem.W.Frag) (wi : TI) (ci : List Nat) (tt : TT) (te : TE) : TE := fun σ H Q => wi σ H fun J H1 => LcW2 K J ci tt te σ Q H1
theorem Zza {elt iter : Expr} {px py pt pos : Pos} {kt : Nat} {ifs : List Expr} {wi : TI} {tt : TT} {te : TE} (hc : X.calm = true) (B : BlkOk2 X scope x y0 cn ci) (hi : PI X (.Tuple [.Name x px, .Name y0 py] kt pt) iter wi)
  (ht : ∀ cl C s H fp pn, PTs (blk X scope (x :: y0 :: cn) cl C s H fp pn) ifs tt) (he : ∀ cl C s H fp pn, PE (blk X scope (x :: y0 :: cn) cl C s H fp pn) elt te)
  (hs : ∀ x, foldedSetIterable iter X.env x = pure x := by rintro _; rfl) : PE X (.ListComp elt [⟨.Tuple [.Name x px, .Name y0 py] kt pt, iter, ifs, 0⟩] scope pos) (tLC2 X.K wi ci tt te) := by
 intro pins s σ H Q I h
 rw [eval_ListComp]
 refine wpAny_comprehension_free (use := none) rfl hs (Zge X.env scope B.free) B.kind B.names ?_
 refine thn (hi pins s σ H _ I h) fun v s1 h1 => thn h1 fun itv s2 h2 => ?_
 obtain ⟨it, fp, tn, J, H2, e, I2, T, st2, f2, w2⟩ := h2
 subst e
 refine Zp4 (RR := fun acc C => compPost (model X.prog X.w) X.A X.xe none (EP X pins σ Q) acc C) I2 hc B T st2 f2 ht he w2 fun p C H' s' I' g q => ?_
 obtain ⟨m, hn⟩ := g.ns
 exact ⟨m, hn, fun h' hs' => ⟨.ref p, H', g.go I' hs', rfl, q⟩⟩
end
noncomputable def Zy4 (sc scope : Scope) (N : List Str) (x y : Str) (cn : List Str) (ci : List Nat) : Bool :=
 (scope.kind == .function) && scope.names.all (fun y => y.2 != .cell) && scope.names.all (fun y => y.2 != .local || scope.names.lookup y.1 == some .local) && (scope.names.lookup x == some .local) && (scope.names.lookup y == some .local) &&
 scope.names.all (fun y => y.2 != .free || sc.names.lookup y.1 == some .cell) && decide (x :: y :: cn).Nodup && (ci.length == cn.length) &&
 (cn.zip ci).all (fun p => N[p.2]? == some p.1 && scope.names.lookup p.1 == some .free && sc.names.lookup p.1 == some .cell)
theorem Zwk {P : Program} {w : World} {K : PySem.W.Frag} {mg : Str -> Option Value} {base : Heap} {N : List Str} {qual : Str} {sc scope : Scope} {f : Addr} {cdv : Value} {A : Around} {outer : List Env} {s : Shared} {H : Hp} {E : XK} {x y0 : Str} {cn : List Str} {ci : List Nat}
  (h : Zy4 sc scope N x y0 cn ci = true) : BlkOk2 (Zey CX0 P w K mg base N qual sc f cdv A outer s H E).nox scope x y0 cn ci := by
 unfold Zy4 at h
 simp only [Bool.and_eq_true, List.all_eq_true, Bool.or_eq_true, bne_iff_ne, ne_eq, beq_iff_eq, decide_eq_true_eq] at h
 obtain ⟨⟨⟨⟨⟨⟨⟨⟨h1, h2⟩, h3⟩, h4⟩, h4b⟩, h5⟩, h6⟩, h7⟩, h8⟩ := h
 refine ⟨h1, fun y hy => h2 y hy, fun y hy hl => (h3 y hy).resolve_left fun z => z hl, h4, h4b, fun y hy hf => ?_, h6, h7, fun j y hj => ?_⟩
 ·have := (h5 y hy).resolve_left fun z => z hf
  obtain ⟨c, hc⟩ := Zg8 (n := s.heap.objs.size + 1) this
  exact Option.isSome_iff_exists.mpr ⟨c, hc⟩
 ·have hl : j < ci.length := by rw [h7]; exact (List.getElem?_eq_some_iff.mp hj).1
  have hm : (y, ci[j]) ∈ cn.zip ci := by
   refine List.mem_iff_getElem?.mpr ⟨j, ?_⟩
   rw [List.getElem?_zip_eq_some]
   exact ⟨hj, by simp [hl]⟩
  obtain ⟨⟨k1, k2⟩, k3⟩ := h8 _ hm
  exact ⟨ci[j], by simp [hl], k1, k2, .inl k3⟩
noncomputable def two2 : D -> Option (D × D)
 | .tup [a, b] => some (a, b)
 | _ => none
theorem Zpm {x a b : D} (h : two2 x = some (a, b)) : x = .tup [a, b] := by
 unfold two2 at h
 split at h
 ·cases h; rfl
 ·cases h
open Classical in
noncomputable def Zdi (own : Zgy) (c0 : SD) (tt : TF) (te : EF) : List D -> HD -> Option (List D × HD)
 | [], H => if Zcj own H then some ([], H) else none
 | x :: r, H => (two2 x).bind fun ab => if Zcj own H then (tt (some ab.1 :: some ab.2 :: c0) H).bind fun t => if t.1 = true then (te (some ab.1 :: some ab.2 :: c0) t.2).bind fun e => (Zdi own c0 tt te r e.2).map fun q => (e.1 :: q.1, q.2) else Zdi own c0 tt te r t.2 else none
noncomputable def Zyl (it : ItF) (ci : List Nat) (tt : TF) (te : EF) : EF := fun σ H => (it σ H).bind fun p => (Zdi p.1.2 (Zsb ci σ) tt te p.1.1 p.2).bind fun q => mkL q.1 q.2
theorem Zny {own : Zgy} {c0 : SD} {tt : TF} {te : EF} {x : D} {r : List D} {H : HD} {z : List D × HD} (h : Zdi own c0 tt te (x :: r) H = some z) : ∃ a b, x = .tup [a, b] ∧ Zcj own H ∧ ((tt (some a :: some b :: c0) H).bind fun t => if t.1 = true then (te (some a :: some b :: c0) t.2).bind fun e => (Zdi own c0 tt te r e.2).map fun q => (e.1 :: q.1, q.2) else Zdi own c0 tt te r t.2) = some z := by
 rw [Zdi] at h
 obtain ⟨⟨a, b⟩, e, h⟩ := Zo h
 split at h
 ·rename_i ok
  exact ⟨a, b, Zpm e, ok, h⟩
 ·cases h
section
variable {X : Cx} {scope : Scope} {x y0 : Str} {cn : List Str} {ci : List Nat}
theorem Zzy {α β : Type} {F : α -> β -> Prop} {a b : α} {us : List β} (h : Paired F [a, b] us) : ∃ u v, us = [u, v] ∧ F a u ∧ F b v := by
 cases h with
 | cons p P => cases P with
  | cons q P => cases P; exact ⟨_, _, rfl, p, q⟩
theorem SRep.cap2 {K : PySem.W.Frag} {H : Hp} {ι : List Addr} {σ : L2.St} {σd : SD} {d e : D} {v u : V} (s : SRep K H ι σ σd) (r : Rep K H ι d v) (r2 : Rep K H ι e u) : SRep K H ι (some v :: some u :: Zif ci σ) (some d :: some e :: Zsb ci σd) := by
 have c := SRep.cap (ci := ci) s r2
 refine ⟨by simpa using c.len, fun i z h => ?_⟩
 cases i with
 | zero => simp at h; subst h; exact ⟨v, rfl, r⟩
 | succ j =>
  rw [List.getElem?_cons_succ] at h ⊢
  exact c.var j z h
theorem Zz1 {K : PySem.W.Frag} {it : ItF} {tt : TF} {te : EF} {σ : L2.St} {H : Hp} {Q : VK} (h : rdE K (Zyl it ci tt te) σ H Q) : tLC2 K (rdI K it) ci (rdT K tt) (rdE K te) σ H Q := by
 obtain ⟨ι, σd, Hd, d, Hd', s, hr, e, q⟩ := h
 obtain ⟨⟨⟨xs, own⟩, H1⟩, e1, e⟩ := Zo e
 obtain ⟨⟨ds, H2⟩, e2, e⟩ := Zo e
 obtain ⟨hz, e⟩ := Zjc e
 cases e
 dsimp only at e2 hz
 refine ⟨ι, σd, Hd, xs, own, H1, s, hr, e1, fun J H0 ι0 l0 h0 itr p hp => ?_⟩
 have s0 := s.mono l0
 refine ⟨fun i m ys H => m = xs.length - i ∧ i ≤ xs.length ∧ H p = some (.lst ys) ∧ ∃ ι Hd done rest, Le K H0 ι0 H ι ∧ p ∉ ι ∧ HRep K H ι Hd ∧ Paired (Rep K H ι) done ys ∧ Zdi own (Zsb ci σd) tt te (xs.drop i) Hd = some (rest, H2) ∧ ds = done ++ rest,
  ⟨xs.length, by simp, Nat.zero_le _, Zaq, ι0, H1, [], ds, Le.fresh hp _, h0.fresh hp, h0.tup hp _, .nil, by simpa using e2, by simp⟩, ?_⟩
 rintro i m ys H5 ⟨rfl, hi, hpl, ι5, Hd5, done, rest, l5, np5, h5, pd5, e5, eds⟩
 refine ⟨hpl, ?_⟩
 by_cases hlt : i < xs.length
 ·have ed : xs.drop i = xs[i] :: xs.drop (i + 1) := List.drop_eq_getElem_cons hlt
  rw [ed] at e5
  obtain ⟨a1, a2, ex, ok, e5⟩ := Zny e5
  obtain ⟨⟨b6, H6⟩, e6, e5⟩ := Zo e5
  refine .inr ⟨itr.go i H5 ι5 Hd5 l5 h5 ok hlt, fun v H' y => ?_⟩
  obtain ⟨ι6, l6, h6, r6⟩ := itr.yld i H5 ι5 Hd5 xs[i] v H' l5 h5 ok (by simp [hlt]) y
  obtain ⟨hp6, np6⟩ := l6.frame p _ hpl np5
  rw [ex] at r6
  obtain ⟨a6, ws6, ev6, sq6, P6⟩ := Zbd.mp r6
  obtain ⟨u1, u2, rfl, p1, p2⟩ := Zzy P6
  have s6 := SRep.cap2 (ci := ci) (s0.mono (l5.trans l6)) p1 p2
  refine ⟨a6, u1, u2, ev6, sq6, ι6, _, Hd5, b6, H6, s6, h6, e6, fun H7 ι7 l7 h7 => ?_⟩
  obtain ⟨hp7, np7⟩ := l7.frame p _ hp6 np6
  have L7 := (l5.trans l6).trans l7
  cases b6 with
  | true =>
   rw [if_pos rfl]
   dsimp only at e5
   rw [if_pos rfl] at e5
   obtain ⟨⟨d8, H8⟩, e8, e5⟩ := Zo e5
   obtain ⟨⟨r9, H9⟩, e9, e5⟩ := Zm e5
   cases e5
   refine ⟨ι7, _, H6, d8, H8, s6.mono l7, h7, e8, fun v8 H8' ι8 l8 h8 rr8 => ?_⟩
   obtain ⟨hp8, np8⟩ := l8.frame p _ hp7 np7
   have ly : ys.length < sizeLine := by
    rw [← Prd.len pd5]
    rw [eds] at hz
    simp at hz
    omega
   have w8 : Lw K H8' ι8 (upd H8' p (.lst (ys ++ [v8]))) ι8 := Lw.side hp8 _
   refine ⟨hp8, ly, xs.length - (i + 1), by omega, rfl, hlt, Zaq, ι8, H8, done ++ [d8], r9, (L7.trans l8).side hp hp8 _, np8, h8.keep w8 (fun a ha => Zak fun z => by subst z; exact np8 ha), ?_, e9, by rw [eds]; simp⟩
   exact Prd.append (Prd.monoW w8 (Prd.mono ((l6.trans l7).trans l8) pd5)) (.cons (Rep.monoW w8 rr8) .nil)
  | false =>
   rw [if_neg (by simp)]
   dsimp only at e5
   rw [if_neg (by simp)] at e5
   exact ⟨xs.length - (i + 1), by omega, rfl, hlt, hp7, ι7, H6, done, rest, L7, np7, h7, Prd.mono (l6.trans l7) pd5, e5, eds⟩
 ·rw [List.drop_eq_nil_of_le (by omega), Zdi] at e5
  split at e5
  ·rename_i ok
   have e6 : (([] : List D), Hd5) = (rest, H2) := Option.some.inj e5
   obtain ⟨rfl, rfl⟩ := Prod.mk.inj e6
   refine .inl ⟨itr.stop i H5 ι5 _ l5 h5 ok (by omega), ?_⟩
   have w5 : Lw K H5 ι5 H5 (ι5 ++ [p]) := ⟨fun _ _ z => z, fun _ _ z => z, ⟨[p], rfl⟩, fun _ _ _ z => z⟩
   have L := l0.trans l5
   simp at eds
   subst eds
   refine q _ H5 (ι5 ++ [p]) ⟨L.toLw.trans w5, fun a o ha na => ?_⟩ (h5.add np5 ⟨ys, hpl, Prd.monoW w5 pd5⟩) (Zan.mpr ⟨p, rfl, by rw [← h5.len]; simp⟩)
   obtain ⟨q1, q2⟩ := L.frame a o ha na
   refine ⟨q1, ?_⟩
   have : a ≠ p := fun z => by
    subst z
    have := (l0.frame a o ha na).1
    rw [hp] at this; cases this
   simp [q2, this]
  ·cases e5
theorem Zw7 {elt iter : Expr} {px py pt pos : Pos} {kt : Nat} {ifs : List Expr} {it : ItF} {tt : TF} {te : EF} (hc : X.calm = true) (B : BlkOk2 X scope x y0 cn ci) (hi : PIf X (.Tuple [.Name x px, .Name y0 py] kt pt) iter it)
  (ht : ∀ cl C s H fp pn, Zy1 (blk X scope (x :: y0 :: cn) cl C s H fp pn) ifs tt) (he : ∀ cl C s H fp pn, PEf (blk X scope (x :: y0 :: cn) cl C s H fp pn) elt te)
  (hs : ∀ x, foldedSetIterable iter X.env x = pure x := by rintro _; rfl) : PEf X (.ListComp elt [⟨.Tuple [.Name x px, .Name y0 py] kt pt, iter, ifs, 0⟩] scope pos) (Zyl it ci tt te) :=
 PEi (Zza (tt := rdT X.K tt) (te := rdE X.K te) hc B hi ht he hs) fun _ _ _ h => Zz1 h
end
end DL
namespace DL
open PySem PySem.Spec PyProof.Rows L2 PySem.W
section
variable {X : Cx}
noncomputable def Zh4 (x : D) (ds : List D) (H : HD) : Option (D × HD) := match x, ds with
 | .ref n, [d] => match H[n]? with
  | some (.lst _) => (dat (.ref n) H).bind fun p => (dat d H).bind fun q => (Zen p).map fun ps => (.int (ps.countP fun z => PyData.eqv z q : Nat), H)
  | _ => none
 | _, _ => none
theorem Zoi (hu : X.A.units + 64 < cLine) : MtF X "list.count" Zh4 := by
 rintro pins s σ H x xs v us Q I rx rv ⟨ι, dx, ds, Hd, d, Hd', hr, r1, P, e, q⟩
 unfold Zh4 at e
 split at e
 ·rename_i n d1
  split at e
  ·rename_i zs hn
   obtain ⟨z, rfl, rz⟩ := Zj7 P
   obtain ⟨u, rfl, ru⟩ := rv.one
   obtain ⟨p, e1, e⟩ := Zo e
   obtain ⟨p2, e2, e⟩ := Zo e
   obtain ⟨ys, e3, e⟩ := Zm e
   obtain ⟨rfl, rfl⟩ := Prod.mk.inj e
   obtain ⟨t1, c1, k1⟩ := Zbp e1
   obtain ⟨t2, c2, k2⟩ := Zbp e2
   obtain ⟨as, ra⟩ := Zbl I hr _ _ t1 r1 rx
   obtain ⟨bs, rb⟩ := Zbl I hr _ _ t2 rz ru
   obtain ⟨ws, rfl⟩ : ∃ ws, p = .list ws := by
    rw [toP] at t1
    simp only [hn] at t1
    obtain ⟨ws, _, rfl⟩ := Zm t1
    exact ⟨ws, rfl⟩
   cases e3
   simp only [PyData.canLay0] at c1
   simp only [PyData.depth] at k1
   cases ra with
   | list h1 h2 h3 h4 =>
    rename_i a o its m as2
    obtain ⟨cl, dd, dt, sl⟩ := o
    cases h2
    cases h3
    refine call_meets PySem.F.slot_list_count ⟨_, h1, rfl⟩ PySem.F.entry_list_count (PySem.F.args_list_count_2 _ _) (SeqAt.list_countAt _ _ _ dd sl u _) ⟨h1, SeqAt.items_eqAt h4 rb c1 c2 (by omega), ?_⟩
    exact ⟨.int _, H, I.tok _, ⟨_, by rw [Zoc h4 c1]⟩, q _ H ι Le.refl hr (by simp)⟩
  ·cases e
 ·cases e
end
end DL
namespace L2
open PySem PySem.Spec PyProof.Rows
theorem Zcr.here {P : Program} {w : World} {H : Hp} {h : Heap} {a : Addr} {o : HO} (x : Zcr P w H h a o) : ∃ ob, h.get? a = some ob := by
 cases o with
 | lst xs => obtain ⟨_, its, n, _, e⟩ := x; exact ⟨_, e⟩
 | tup xs => obtain ⟨_, its, _, ob, e, _⟩ := x; exact ⟨_, e⟩
 | dK kvs => obtain ⟨_, _, vs, _, ob, es, ep, e, _⟩ := x; exact ⟨_, e⟩
 | dT kvs => obtain ⟨_, _, xs, _, ob, es, ep, e, _⟩ := x; exact ⟨_, e⟩
 | set S n => obtain ⟨ob, es, ep, t, e, _⟩ := x; exact ⟨_, e⟩
 | ins C dx fs => obtain ⟨_, _, _, e, _⟩ := x; exact ⟨_, e⟩
 | own y => obtain ⟨ob, e⟩ := x; exact ⟨_, e⟩
 | xd fs => obtain ⟨mA, ⟨od, es, ep, e, _⟩, _⟩ := x; exact ⟨_, e⟩
 | rng lo hi => obtain ⟨t, u, v, e⟩ := x; exact ⟨_, e⟩
 | frz ob u => obtain ⟨e, _⟩ := x; exact ⟨_, e⟩
 | tbl ps => exact ⟨_, x⟩
 | met f y => exact ⟨_, x⟩
 | ext φ => obtain ⟨_, e, _⟩ := x; exact e
end L2
namespace DL
open PySem PySem.Spec PyProof.Rows L2 PySem.W
structure Fly (l : List Env) (H H1 : Hp) (h0 h1 : Heap) (a : Addr) (C : Value) : Prop where
 new : h0.get? a = none
 fly : ∃ (B : Heap) (a0 : Value), Heap.FlyingW B l a C a0 h1 ∧ (∀ b o, h0.get? b = some o -> b ∉ frs l -> ∃ o', B.get? b = some o' ∧ (H b = none -> o' = o)) ∧ ∀ b ho, H1 b = some ho -> ∃ o, h1.get? b = some o ∧ B.get? b = some o
noncomputable def CXe (P : Program) (w : World) : CXT := fun outer H s E e s' => ∃ (a : Addr) (C : Value) (H1 : Hp), e = .ref a ∧ E C none H1 ∧ s'.os = s.os ∧ AllBare s'.gens ∧ Un (frs outer) [] H H1 s.heap s'.heap ∧ HOk P w H1 s'.heap ∧ Fly outer H H1 s.heap s'.heap a C
structure ExcT (K : PySem.W.Frag) (mg : Str -> Option Value) (x : Str) (C : Addr) : Prop where
 bound : mg x = some (.ref C)
 kp : PySem.W.keepIn K (.ref C) = true
 inK : ∃ (bm : List Value) (B newId initId : String), PySem.W.excIn K C bm newId = true ∧ ExcBaseFacts B newId initId bm
theorem Zyf {K : PySem.W.Frag} {h : Heap} {mg : Str -> Option Value} {x : Str} {C : Addr} {bmB : List Value} {newId : String} (X : K.In h) (e : mg x = some (.ref C)) (q : PySem.W.excIn K C bmB newId = true) : OwnCls x C bmB newId mg h := by
 have z := q
 unfold PySem.W.excIn at z
 split at z <;> try cases z
 rename_i d1 c1 l1 look
 split at z <;> try cases z
 rename_i D tl s0 s1 s2 s3 nid s5 e1 e2
 rw [Bool.and_eq_true, Bool.and_eq_true, Bool.and_eq_true, Bool.and_eq_true, Bool.and_eq_true] at z
 obtain ⟨⟨⟨⟨⟨a1, a2⟩, a3⟩, a4⟩, a5⟩, a6⟩ := z
 have a1 : D = C := beq_iff_eq.mp a1
 have a2 : nid = newId := beq_iff_eq.mp a2
 have a6 := beq_iff_eq.mp a6
 subst a1 a2
 have here := X _ _ look
 have a7 : l1 = #[s0, s1, s2, s3, some (.builtin nid), s5] := by rw [← e2]
 have a8 : c1.hasDel = false := by simpa using a3
 subst a7
 refine ⟨e, tl, c1.ns, c1.name, c1.qualname, c1.bases, c1.hasDict, c1.slotNames, c1.subclasses, c1.abstract, c1.collection, d1, s0, s1, s2, s3, s5, _, ?_, .of_isNs (isNs_of_in X a5), nsMap_none_of_in X a5 a6, tail_of_in X a4⟩
 rw [here]
 unfold excClassObj
 rw [← e1, ← a8]
theorem Zp6 {P : Program} {w : World} {l : List Env} {H H1 : Hp} {h0 h1 h2 B : Heap} (u : Un (frs l) [] H H1 h0 h1) (ok : HOk P w H1 h1) (bo : ∀ b o, h0.get? b = some o -> b ∉ frs l -> ∃ o', B.get? b = some o' ∧ (H b = none -> o' = o)) (bt : ∀ b ho, H1 b = some ho -> ∃ o, h1.get? b = some o ∧ B.get? b = some o)
  (st : B.StaysIn h2) (up : h1.UpToSlots h2) (ff : h1.FunFrames B l) : Un (frs l) [] H H1 h0 h2 ∧ HOk P w H1 h2 := by
 have fram : ∀ b o, b ∈ frs l -> h1.get? b = some o -> ∃ sl, h2.get? b = some { o with slots := sl } := fun b o z eb => by
  obtain ⟨_, o', g1, g3⟩ := ff.mem z
  rw [eb] at g1
  cases g1
  exact up b o eb g3
 refine ⟨⟨fun b o e n nb _ => ?_, fun b o e n hb hx => ?_, u.free, fun b o e hx => ?_, u.tups, u.frzs, u.tbls⟩, fun b ho e => ?_⟩
 ·obtain ⟨o', g, z⟩ := bo b o e nb
  rw [z n] at g
  exact st b o g
 ·obtain ⟨sl, g⟩ := u.slot b o e n hb hx
  obtain ⟨sl', g'⟩ := fram b _ hb g
  exact ⟨sl', g'⟩
 ·by_cases z : b ∈ frs l
  ·obtain ⟨o1, g⟩ := u.there b o e hx
   obtain ⟨sl, g'⟩ := fram b o1 z g
   exact ⟨_, g'⟩
  ·obtain ⟨o', g, _⟩ := bo b o e z
   exact ⟨o', st b o' g⟩
 ·refine (ok b ho e).stay (fun c v hc g => ?_) (fun _ z => z) (fun _ _ z => z)
  have tk : ∃ hc, H1 c = some hc := by
   rcases hc with rfl | hc
   ·exact ⟨_, e⟩
   ·exact ⟨_, hc⟩
  obtain ⟨hc', tk⟩ := tk
  obtain ⟨o, g1, g2⟩ := bt c hc' tk
  rw [g] at g1
  cases g1
  exact st c v g2
section
variable {P : Program} {w : World} {K : PySem.W.Frag} {mg : Str -> Option Value} {base : Heap} {N : List Str} {qual : Str} {scope : Scope} {f : Addr} {cd : Value} {A : Around} {outer : List Env} {s s1 : Shared} {H H1 : Hp} {E : XK} {pins : List (Addr × Obj)} {σ : L2.St}
theorem Zpf {h' : Heap} {e C : Addr} {vs : List Value} (I : Inv (Zey (CXe P w) P w K mg base N qual scope f cd A outer s H E) pins σ H1 s1) (hx : Heap.MadeExcOf s1.heap h' e (.ref C) vs) (q : E (.ref C) none H1) :
  (Zey (CXe P w) P w K mg base N qual scope f cd A outer s H E).xe (.ref e) { s1 with heap := h' } := by
 have hS := I.stack
 have hF : s1.heap.FunFrames (hideAll s1.heap (frs (Zey (CXe P w) P w K mg base N qual scope f cd A outer s H E).stack)) (Zey (CXe P w) P w K mg base N qual scope f cd A outer s H E).stack := funFrames_hide hS fun env he b hb => List.mem_filterMap.mpr ⟨env, he, hb⟩
 have fr := I.ok.frames
 refine wpAny_leaves_madeW (base := hideAll s1.heap (frs (Zey (CXe P w) P w K mg base N qual scope f cd A outer s H E).stack)) fr rfl (fun b o z => of_hideAll _ z) hF hx fun h2 t f1 f2 f3 f4 => ?_
 have nf : ∀ b ho, H1 b = some ho -> b ∉ frs (Zey (CXe P w) P w K mg base N qual scope f cd A outer s H E).stack := fun b ho eb z => by rw [I.stkFree b z] at eb; cases eb
 have kp : ∀ b o, s1.heap.get? b = some o -> b ∉ frs (Zey (CXe P w) P w K mg base N qual scope f cd A outer s H E).stack -> h2.get? b = some o := fun b o eb z => f1.1 b o (hideAll_get _ eb z)
 have old : ∀ b o, s.heap.get? b = some o -> b ∉ frs outer -> b ∉ frs (Zey (CXe P w) P w K mg base N qual scope f cd A outer s H E).stack := fun b o eb z y => by
  rcases List.mem_cons.mp (I.stkSub b y) with rfl | y
  ·exact absurd (Nat.lt_of_lt_of_le (Heap.lt_size eb) I.ok.above) (Nat.lt_irrefl _)
  ·exact z y
 have fram : ∀ b o, b ∈ frs (Zey (CXe P w) P w K mg base N qual scope f cd A outer s H E).stack -> s1.heap.get? b = some o -> ∃ sl, h2.get? b = some { o with slots := sl } := fun b o z eb => by
  obtain ⟨_, o', h1, h3⟩ := hS.mem z
  rw [eb] at h1
  cases h1
  exact f4 b o (hx.keeps b o eb) h3
 refine ⟨e, .ref C, H1, rfl, q, I.os, I.bare, ⟨fun b o eb n nb _ => kp b o (I.base.keep b o eb n nb (by rintro z; cases z)) (old b o eb nb), fun b o eb n hb _ => ?_, fun b o eb n _ => I.base.free b o eb n (by intro z; cases z), fun b o eb _ => ?_, I.base.tups, I.base.frzs, I.base.tbls⟩, fun b ho eb => ?_, ⟨?_, _, _, f1, fun b o eb nb => ?_, fun b ho eb => ?_⟩⟩
 ·obtain ⟨sl, g⟩ := I.base.slot b o eb n hb (by intro z; cases z)
  obtain ⟨sl', g'⟩ := fram b _ (List.mem_cons_of_mem _ hb) g
  exact ⟨sl', g'⟩
 ·obtain ⟨o1, g⟩ := I.base.there b o eb (by intro z; cases z)
  by_cases z : b ∈ frs (Zey (CXe P w) P w K mg base N qual scope f cd A outer s H E).stack
  ·obtain ⟨sl, g'⟩ := fram b o1 z g
   exact ⟨_, g'⟩
  ·exact ⟨o1, kp b o1 g z⟩
 ·exact (I.hok b ho eb).stay (fun c u hc g => kp c u g (by
   rcases hc with rfl | hc
   ·exact nf _ _ eb
   ·exact nf _ _ hc)) (fun _ z => z) (fun _ _ z => z)
 ·cases z : s.heap.get? e with
  | none => rfl
  | some o =>
   obtain ⟨o1, g⟩ := I.base.there e o z (by intro y; cases y)
   rw [hx.new] at g; cases g
 ·obtain ⟨o1, g⟩ := I.base.there b o eb (by intro z; cases z)
  refine ⟨o1, hideAll_get _ g (old b o eb nb), fun n => ?_⟩
  have k1 := I.base.keep b o eb n nb (by intro z; cases z)
  exact Option.some.inj (g.symm.trans k1)
 ·obtain ⟨o, g⟩ := (I.hok b ho eb).here
  exact ⟨o, kp b o g (nf b ho eb), hideAll_get _ g (nf b ho eb)⟩
theorem Zpe {s' : Shared} {H0 : Hp} {a C : Addr} (I : Inv (Zey (CXe P w) P w K mg base N qual scope f cd A outer s H E) pins σ H0 s1) (os : s'.os = s1.os) (bare : AllBare s'.gens) (un : Un (frs (Zey (CXe P w) P w K mg base N qual scope f cd A outer s H E).stack) [] H0 H1 s1.heap s'.heap) (hok : HOk P w H1 s'.heap)
  (fl : Fly (Zey (CXe P w) P w K mg base N qual scope f cd A outer s H E).stack H0 H1 s1.heap s'.heap a (.ref C)) (q : E (.ref C) none H1) : (Zey (CXe P w) P w K mg base N qual scope f cd A outer s H E).xe (.ref a) s' := by
 obtain ⟨B, a0, fly, bo, bt⟩ := fl.fly
 have fr := I.ok.frames
 refine wpAny_leaves_onW fr rfl fly fun h2 f1 up => ?_
 obtain ⟨un2, ok2⟩ := Zp6 un hok bo bt f1.1 up fly.2.2.1
 have old : ∀ b o, s.heap.get? b = some o -> b ∉ frs outer -> b ∉ frs (Zey (CXe P w) P w K mg base N qual scope f cd A outer s H E).stack := fun b o eb z y => by
  rcases List.mem_cons.mp (I.stkSub b y) with rfl | y
  ·exact absurd (Nat.lt_of_lt_of_le (Heap.lt_size eb) I.ok.above) (Nat.lt_irrefl _)
  ·exact z y
 have u : Un (frs (Zey (CXe P w) P w K mg base N qual scope f cd A outer s H E).stack) [] H H1 s.heap h2 := (I.base.mono (fun b hb => List.mem_cons_of_mem _ hb) (fun b hb => hb)).trans un2
 refine ⟨a, .ref C, H1, rfl, q, os.trans I.os, bare, ⟨fun b o eb n nb hx => u.keep b o eb n (old b o eb nb) hx, fun b o eb n hb hx => u.slot b o eb n (List.mem_cons_of_mem _ hb) hx, u.free, u.there, u.tups, u.frzs, u.tbls⟩, ok2, ⟨?_, B, a0, f1, fun b o eb nb => ?_, fun b ho eb => ?_⟩⟩
 ·cases z : s.heap.get? a with
  | none => rfl
  | some o =>
   obtain ⟨o1, g⟩ := I.base.there a o z (by intro y; cases y)
   rw [fl.new] at g; cases g
 ·obtain ⟨o1, g⟩ := I.base.there b o eb (by intro z; cases z)
  obtain ⟨o', g', z⟩ := bo b o1 g (old b o eb nb)
  refine ⟨o', g', fun n => ?_⟩
  rw [z (I.base.free b o eb n (by intro z; cases z))]
  have k1 := I.base.keep b o eb n nb (by intro z; cases z)
  exact Option.some.inj (g.symm.trans k1)
 ·obtain ⟨o, g, g'⟩ := bt b ho eb
  exact ⟨o, f1.1 b o g', g'⟩
end
noncomputable abbrev XFs := SD -> HD -> Option HD
noncomputable abbrev XFF := List D -> HD -> Option HD
noncomputable def Zyr (X : Cx) (C : Addr) (H1 : Hp) (e : Value) (s' : Shared) : Prop := ∃ pins σ1 a, e = .ref a ∧ ((∃ s1 h' vs, Inv X pins σ1 H1 s1 ∧ Heap.MadeExcOf s1.heap h' a (.ref C) vs ∧ s' = { s1 with heap := h' }) ∨
 ∃ s1 H0, Inv X pins σ1 H0 s1 ∧ s'.os = s1.os ∧ AllBare s'.gens ∧ Un (frs X.stack) [] H0 H1 s1.heap s'.heap ∧ HOk X.prog X.w H1 s'.heap ∧ Fly X.stack H0 H1 s1.heap s'.heap a (.ref C))
noncomputable def rdX (X : Cx) (C : Addr) (b : XFs) : TS := fun _ σ H => ∃ ι σd Hd Hd', SRep X.K H ι σ σd ∧ HRep X.K H ι Hd ∧ b σd Hd = some Hd' ∧
 ∀ H1 ι' e s', Le X.K H ι H1 ι' -> HRep X.K H1 ι' Hd' -> Zyr X C H1 e s' -> X.xe e s'
noncomputable def PXf (X : Cx) (C : Addr) (sts : List Stmt) (b : XFs) : Prop := PSs X sts (rdX X C b)
noncomputable def Zzf (f : SF) (b : XFs) : XFs := fun σ H => (f σ H).bind fun r => match r.1 with
 | .nx => b r.2.1 r.2.2
 | _ => none
noncomputable def xIf (t : TF) (b : XFs) : XFs := fun σ H => (t σ H).bind fun r => if r.1 then b σ r.2 else none
noncomputable def Zgo (f : EF) : XFs := fun σ H => (f σ H).map fun r => r.2
noncomputable def Zsx (n N : Nat) (b : XFs) : XFF := fun ds H => if ds.length = n then b (ds.map some ++ List.replicate (N - ds.length) none) H else none
section
variable {X : Cx} {C : Addr} {st : Stmt} {sts : List Stmt} {e c : Expr} {pos np cpos : Pos} {x : Str}
theorem Zpv : PSs X sts fun _ _ _ => False := fun _ _ _ _ _ _ h => h.elim
theorem Zv7 {f : SF} {b : XFs} (h1 : PSf X st f) (h2 : PXf X C sts b) : PXf X C (st :: sts) (Zzf f b) := by
 refine Zzh (Zg3 h1 h2) fun E σ H zz => ?_
 obtain ⟨ι, σd, Hd, Hd', s, hr, e, q⟩ := zz
 obtain ⟨⟨f1, σ1, H1⟩, e1, e⟩ := Zo e
 refine ⟨ι, σd, Hd, f1, σ1, H1, s, hr, e1, fun σ' H' ι' l h ss => ?_⟩
 cases f1 with
 | nx => exact ⟨ι', σ1, H1, Hd', ss, h, e, fun H2 ι2 ex s2 l2 => q H2 ι2 ex s2 (l.trans l2)⟩
 | bk => cases e
 | ct => cases e
 | rt d => cases e
theorem px_if {t : TF} {as : List Stmt} {b : XFs} (hc : PTf X c t) (ha : PXf X C as b) : PXf X C (.If c as [] pos :: sts) (xIf t b) := by
 refine Zzh (Zg3 (Yaw hc ha (Zpv (sts := []))) (Zpv (sts := sts))) fun E σ H zz => ?_
 obtain ⟨ι, σd, Hd, Hd', s, hr, e, q⟩ := zz
 obtain ⟨⟨z, H1⟩, e1, e⟩ := Zo e
 refine ⟨ι, σd, Hd, z, H1, s, hr, e1, fun H' ι' l h => ?_⟩
 cases z with
 | true =>
  rw [if_pos rfl]
  exact ⟨ι', σd, H1, Hd', s.mono l, h, by simpa using e, fun H2 ι2 ex s2 l2 => q H2 ι2 ex s2 (l.trans l2)⟩
 | false => simp at e
theorem Ztz {fe : EF} (hc : X.calm = true) (T : ExcT X.K X.mg x C) (hg : Gl X x) (hf : PAf X [e] (Zaa fe Zae)) (hdb : (x == ("__debug__" : Str)) = false := by decide) (he : starEach [e] X.env = (false, eval e X.env) :: starEach [] X.env := by exact Zav rfl) :
  PS X (.Raise (some (.Call (.Name x np) [e] [] cpos)) none pos) (rdX X C (Zgo fe)) := by
 rintro pins s σ H D I ⟨ι, σd, Hd, Hd', ss, hr, eq, q⟩
 obtain ⟨⟨d, H1⟩, e1, e2⟩ := Zm eq
 have e2 : H1 = Hd' := e2
 subst e2
 obtain ⟨bm0, B, newId, initId, k1, FB⟩ := T.inK
 obtain ⟨tl, N, nm, qn, bs, hdct, sn, sub, ab, col, dd, k0, k1', k2, k3, k5, mN, hC, hN, hni, TL⟩ := (Zyf I.ok.mod.kin T.bound k1).obj
 have pl : (backTo cpos (starEach [e] X.env)).any (·.1) = false := by rw [he]; rfl
 refine wpAny_Raise_call_subT (C := C) (nm := nm) (q := qn) (N := N) (bs := bs) (bm := tl) (hdct := hdct) (sn := sn) (sub := sub) (ab := ab) (col := col) (dd := dd) (k0 := k0) (k1 := k1') (k2 := k2) (k3 := k3) (k5 := k5) FB (mN := mN) (TL.hasType FB.hasBase) (I.ok.hd hc) pl hni (Zhg I hg T.bound ⟨rfl, ?_⟩ hdb)
 have ea : Zaa fe Zae σd Hd = some ([d], H1) := by unfold Zaa; rw [e1]; rfl
 have a1 := hf cpos pins s σ H (fun vs H' => vs.length = 1 ∧ ∃ ι', Le X.K H ι H' ι' ∧ HRep X.K H' ι' H1) I ⟨ι, σd, Hd, [d], H1, ss, hr, ea, fun vs H' ι' l h P => ⟨(Prd.len P).symm, ι', l, h⟩⟩
 rw [he] at a1 ⊢
 refine Calls.evalArgs_plain (wpAny_mono a1 (fun us s2 ⟨vs, H2, I2, r2, ⟨hl, ι', l, h⟩⟩ => ⟨rfl, ?_, I2.bk _ _ hC, hN.keeps I2.bk, TL.keeps I2.bk, fun h' ex hm => ?_⟩) fun _ _ y => y)
 ·rw [← r2.length, hl, PySem.sizeLine_eq]; omega
 ·exact q H2 ι' (.ref ex) _ l h ⟨pins, σ, ex, rfl, .inl ⟨s2, h', us, I2, hm, rfl⟩⟩
theorem Ztg {fe : EF} (hc : X.calm = true) (T : ExcT X.K X.mg x C) (hg : Gl X x) (hf : PAf X [e] (Zaa fe Zae)) (hdb : (x == ("__debug__" : Str)) = false := by decide) (he : starEach [e] X.env = (false, eval e X.env) :: starEach [] X.env := by exact Zav rfl) :
  PXf X C (.Raise (some (.Call (.Name x np) [e] [] cpos)) none pos :: sts) (Zgo fe) := by
 refine Zzh (Zg3 (Ztz hc T hg hf hdb he) (Zpv (sts := sts))) fun E σ H h => ?_
 exact h
noncomputable def spX (K : PySem.W.Frag) (C : Addr) (n : Nat) (F : XFF) : Sp := fun vs H _ E => ∃ ι ds Hd Hd', ds.length = n ∧ HRep K H ι Hd ∧ Paired (Rep K H ι) ds vs ∧ F ds Hd = some Hd' ∧ ∀ H1 ι', Le K H ι H1 ι' -> HRep K H1 ι' Hd' -> E (.ref C) none H1
end
section
variable {P : Program} {w : World} {K : PySem.W.Frag} {mg : Str -> Option Value} {base : Heap}
theorem Ztj {N : List Str} {qual : Str} {scope : Scope} {f : Addr} {cd : Value} {A : Around} {outer : List Env} {s s' : Shared} {H H1 : Hp} {E : XK} {C : Addr} {e : Value} (z : Zyr (Zey (CXe P w) P w K mg base N qual scope f cd A outer s H E) C H1 e s') (q : E (.ref C) none H1) :
  (Zey (CXe P w) P w K mg base N qual scope f cd A outer s H E).xe e s' := by
 obtain ⟨pins, σ1, a, rfl, z⟩ := z
 rcases z with ⟨s1, h', vs, I, hm, rfl⟩ | ⟨s1, H0, I, os, bare, un, hok, fl⟩
 ·exact Zpf I hm q
 ·exact Zpe I os bare un hok fl q
theorem fx_f {x qual : Str} {st : Stmt} {f C : Addr} {fd : FuncData} {N ps : List Str} {k : Nat} {b : XFs} (F : Fun K x qual st f fd) (S : FnScope N ps (Zad st))
  (hb : ∀ (cdv : Value) (A : Around) (outer : List Env) (s : Shared) (H : Hp) (E : XK), Room k (A.deeper (envOfC qual (Zad st) s.heap.objs.size f cdv)) →
   PXf (Zey (CXe P w) P w K mg base N qual (Zad st) f cdv A outer s H E) C (Zbc st) b) : FnOk P w K mg base (CXe P w) (k + 1) f fd ps (spX K C ps.length (Zsx ps.length N.length b)) := by
 obtain ⟨oc, od, kV, doc, pm, an, cdv, ct, osl, rfl, lk, hcd⟩ := F.ex
 refine Zyn lk hcd S (fun vs H Q E ⟨ι, ds, Hd, Hd', hl, _, r, _⟩ => by rw [← Prd.len r]; exact hl) fun A outer s H vs Q E hr zz => ?_
 obtain ⟨ι, ds, Hd, Hd', hl, hh, r, e, q⟩ := zz
 refine ⟨_, hb cdv A outer s H E ?_, ?_⟩
 ·exact hr
 unfold Zsx at e
 rw [if_pos hl] at e
 refine ⟨ι, _, Hd, Hd', ?_, hh, e, fun H1 ι' ex s' l h z => Ztj z (q H1 ι' l h)⟩
 refine ⟨by simp [L2.start, Prd.len r], fun i d0 h0 => ?_⟩
 unfold L2.start
 by_cases hi : i < ds.length
 ·rw [List.getElem?_append_left (by simpa using hi), List.getElem?_map] at h0
  cases ed : ds[i]? with
  | none => rw [ed] at h0; cases h0
  | some d1 =>
   rw [ed] at h0
   cases h0
   obtain ⟨v, hv, rv⟩ := Prd.get r ed
   refine ⟨v, ?_, rv⟩
   rw [List.getElem?_append_left (by rw [List.length_map, ← Prd.len r]; exact hi), List.getElem?_map, hv]
   rfl
 ·rw [List.getElem?_append_right (by simpa using hi), List.getElem?_replicate] at h0
  split at h0 <;> cases h0
end
end DL
namespace L2
open PySem PySem.Spec PyProof.Rows
theorem Zwm {X : Cx} {pins : List (Addr × Obj)} {σ : St} {H : Hp} {s : Shared} {M : Model} {A : Around} {E : Value -> Shared -> Prop} {i : Nat} {x : Str} {pos : Pos} {Q : Unit -> Shared -> Prop} (I : Inv X pins σ H s) (hN : X.N.Nodup) (hi : X.N[i]? = some x) (hl : X.env.kindOf x = some .local)
  (h : ∀ s', Inv X pins (σ.set i none) H s' -> Q () s') : wpAny M A (do bindName X.env x .none; unbindBehindTheSuite X.env x pos) Q E s := by
 obtain ⟨m, hn, hv⟩ := id I.loc
 refine wpAny_nameGoes_keeps hl hn (by rw [I.ok.kind]; rfl) fun h' v hn' hs => h _ ?_
 have old : ∀ b o, X.s₀.heap.get? b = some o -> b ≠ X.env.locals := fun b o e => Nat.ne_of_lt (Nat.lt_of_lt_of_le (Heap.lt_size e) I.ok.above)
 have tr : ∀ b ho, H b = some ho -> b ≠ X.env.locals := fun b ho e z => by rw [z, I.free] at e; cases e
 refine ⟨I.ok, I.os, I.bare, ⟨fun b o e n hb hx => (hs.2 b (old b o e)).trans (I.base.keep b o e n hb hx), fun b o e n hb hx => ?_, I.base.free, fun b o e hx => ?_, I.base.tups, I.base.frzs, I.base.tbls⟩, ⟨_, hn', fun j y w e1 e2 e3 => ?_⟩, fun y c e => ?_, I.free, I.freeC, fun p hp => ?_, fun b ho e => ?_, by simpa using I.len⟩
 ·obtain ⟨sl, g⟩ := I.base.slot b o e n hb hx
  exact ⟨sl, (hs.2 b (old b o e)).trans g⟩
 ·obtain ⟨o', g⟩ := I.base.there b o e hx
  exact ⟨o', (hs.2 b (old b o e)).trans g⟩
 ·by_cases hj : j = i
  ·subst hj
   rw [List.getElem?_set] at e2
   split at e2
   ·split at e2 <;> cases e2
   ·rename_i z; exact absurd rfl z
  ·rw [List.getElem?_set_ne (Ne.symm hj)] at e2
   obtain ⟨u, r, q⟩ := hv j y w e1 e2 e3
   refine ⟨u, r, ?_⟩
   rcases q with ⟨k, z⟩ | ⟨k, c, z, g⟩
   ·have ne : y ≠ x := fun z => hj (Zjx hN e1 (z ▸ hi))
    exact .inl ⟨k, (if_neg ne).trans z⟩
   ·exact .inr ⟨k, c, z, g.sameBut hs (I.cne y c z)⟩
 ·obtain ⟨w, g⟩ := I.cell y c e
  exact ⟨w, g.sameBut hs (I.cne y c e)⟩
 ·obtain ⟨e, n, ne, nf, d⟩ := I.pin p hp
  exact ⟨(hs.2 p.1 ne).trans e, n, ne, nf, d⟩
 ·refine (I.hok b ho e).stay (fun c u hc g => (hs.2 c ?_).trans g) (fun _ z => z) (fun _ _ z => z)
  rcases hc with rfl | hc
  ·exact tr _ _ e
  ·exact tr _ _ hc
end L2
namespace DL
open PySem PySem.Spec PyProof.Rows L2 PySem.W
structure ExcL (K : PySem.W.Frag) (C : Addr) : Prop where
 ga : findIn K (.ref C) "__getattribute__" = some (some (.builtin "BaseException.__getattribute__"))
 gr : findIn K (.ref C) "__getattr__" = some none
 cl : findIn K (.ref C) "__class__" = some (some (.builtin "object.__class__"))
 gt : specialIn K (.builtin "object.__class__") "__get__" = some (some (.builtin "getset_descriptor.__get__"))
 tk : takesIn K (.builtin "object.__class__") = some true
 mr : mroIn K C (.type "object") = some true
 sb : subIn K (.ref C) (.type "BaseException") = some true
 cs : (clsIn K C).isSome = true
section
variable {prog : Program} {w : World} {A : Around} {E : Value -> Shared -> Prop} {s : Shared} {K : PySem.W.Frag} {x C : Addr} {ox : Obj}
structure ExcO (h : Heap) (x : Addr) (ox : Obj) (C : Addr) : Prop where
 at_ : h.get? x = some ox
 cls : ox.cls = .ref C
theorem ExcO.type {M : Model} {h : Heap} (I : ExcO h x ox C) : Looks M h (typeOf (.ref x)) (.ref C) := by rw [← I.cls]; exact (Looks.ld I.at_).andThen .now
theorem Zsm {M : Model} {h : Heap} (L : ExcL K C) (X : K.In h) : Looks M h (Builtin.ObjectAttr.find (.ref x) (.ref C) "__class__") (.bind (.builtin "getset_descriptor.__get__") (.builtin "object.__class__")) := by
 have a1 := looks_findIn (M := M) X L.cl
 have a2 := looks_specialIn (M := M) X L.gt
 have a3 := looks_takesIn (M := M) X L.tk
 unfold Builtin.ObjectAttr.find
 refine a1.andThen ?_
 refine Looks.andThen (t := Builtin.ObjectAttr.getOf (some (.builtin "object.__class__"))) a2 ?_
 refine Looks.andThen (t := Builtin.ObjectAttr.dataDescriptor? (some (.builtin "object.__class__")) (some (.builtin "getset_descriptor.__get__"))) (a := some (.builtin "getset_descriptor.__get__", .builtin "object.__class__")) ?_ (Looks.tag .now)
 unfold Builtin.ObjectAttr.dataDescriptor?
 exact a3.andThen .now
theorem Zwn {R : Result → Shared → Prop} {tp : Value} (X : K.In s.heap) (I : ExcO s.heap x ox C) (hm : mroIn K C (.type "object") = some true) (z : R (.ok (.ret (.ref C))) s) : codeAny (model prog w) A (.call (.builtin "getset_descriptor.__get__") ⟨[.builtin "object.__class__", .ref x, tp], []⟩) R s := by
 obtain ⟨h1, g1, d1, t1, o1⟩ := s
 have a0 := I.type (M := model prog w)
 have a1 := looks_mroIn (M := model prog w) X hm
 refine codeAny_call_builtin KF.slot_gs.plain KF.entry_gs ?_
 refine KF.slot_gs.check _ _ _ _ _ _ _ _ KF.type_class (KF.args_gs _ _ _) ?_
 (unfold Builtin.«getset_descriptor.__get__» Builtin.Getset_descriptor.descrGet; rw [dga_obj]; refine wpAny_bind (wpAny_pure ?_); unfold Builtin.Getset_descriptor.descrGetter Builtin.Getset_descriptor.descrCheckInstance Builtin.Getset_descriptor.descrNameAndClass isInstance; simp only [KF.owner_class]; repeat lk)
 have e1 := KF.entry_class
 refine ⟨Code.quiet_builtin _ (by decide +kernel), codeAny_builtin e1 ?_⟩
 (unfold Builtin.«object.__class__» shownTypeOf; repeat lk); exact z
theorem Zpi {Q : Option Value → Shared → Prop} (L : ExcL K C) (X : K.In s.heap) (I : ExcO s.heap x ox C) (q : Q (some (.ref C)) { s with toks := s.toks + 1 }) : wpAny (model prog w) A (getAttr? (.ref x) "__class__") Q E s := by
 obtain ⟨hh, g, d, t, os⟩ := s
 have L0 := I.type (M := model prog w)
 have L1 := looks_findIn (M := model prog w) X L.ga
 have L2 := looks_findIn (M := model prog w) X L.gr
 have LF := Zsm (x := x) (M := model prog w) L X
 have LS := looks_subIn (M := model prog w) X L.sb
 unfold getAttr? getAttrBy? getAttrBy
 refine wpAny_bind (wpAny_mkText (wpAny_bind (wpAny_attempt (wpAny_holding (wpAny_bind (L0.at (wpAny_bind (L1.at ?_))))))))
 show wpAny _ _ (if (onTheHeap (Value.ref C) && (Value.builtin "BaseException.__getattribute__" == Value.builtin "object.__getattribute__")) = true then _ else _) _ _ _
 have n2 : (Value.builtin "BaseException.__getattribute__" == Value.builtin "object.__getattribute__") = false := by decide +kernel
 rw [if_neg (by rw [n2, Bool.and_false]; exact Bool.false_ne_true)]
 unfold getAttrByItsOwn hookBefore
 rw [if_pos (by rfl)]
 refine wpAny_bind (L2.at (wpAny_bind (wpAny_attempt (wpAny_holding ?_))))
 unfold callGetattribute
 rw [if_neg (by exact Bool.false_ne_true)]
 unfold boundAndCalled
 have LI : Looks (model prog w) hh (isInstance (.ref x) (.type "BaseException")) true := L0.andThen LS
 rw [PySem.F.attr_ValueError.ga.bind (.ref x)]
 refine wpAny_bind (wpAny_pure ?_)
 show wpAny _ _ (call (.builtin "BaseException.__getattribute__") [.ref x, .str (Str.ofString "__class__") t]) _ _ _
 refine wpAny_call (codeAny_call_builtin PySem.F.attr_ValueError.ga.plain PySem.F.entry_bexc_ga ?_)
 have b1 : builtinKind "BaseException.__getattribute__" = some .slot := by decide +kernel
 have b2 : splitId "BaseException.__getattribute__" = some ("BaseException", "__getattribute__") := by decide +kernel
 have b3 := PySem.F.args_bexc_ga (.ref x) (.str (Str.ofString "__class__") t)
 simp only [checkBuiltinCall, b1, b2]
 refine wpAny_bind (LI.at ?_)
 repeat (first | (with_reducible refine L0.at ?_) | (with_reducible refine LF.at ?_) | wp_step)
 exact Zwn (ox := ox) X I L.mr (wpAny_pure (handed_on rfl (wpAny_pure q)))
theorem Zpt (L : ExcL K C) : ∃ c dd cd sl, K.lookup C = some ⟨c, dd, .cls cd, sl⟩ := by
 have z := L.cs
 unfold clsIn at z
 split at z
 ·rename_i e; exact ⟨_, _, _, _, e⟩
 ·cases z
theorem Znl (L : ExcL K C) : KitX K (.ref x) (.ref C) (fun h => ExcO h x ox C) where
 ty := fun _ _ _ I => I.type
 it := fun M h X _ => by
  obtain ⟨c, dd, cd, sl, e⟩ := Zpt L
  intro A1 Q1 E1 s1 kp z
  show wpAny M A1 (isType (.ref C)) Q1 E1 s1
  unfold isType loadHead
  refine wpAny_bind (wpAny_loadPart (kp C _ (X C _ e)) ?_)
  exact wpAny_pure z
 ne := fun h tp dd its n sl X g => by
  obtain ⟨c, d1, cd, s1, e⟩ := Zpt L
  cases z : (Value.ref C == Value.ref tp) with
  | false => rfl
  | true =>
   have y : C = tp := Value.ref.inj (beq_iff_eq.mp z)
   subst y
   have y := X C _ e
   rw [g] at y
   cases y
 ca := fun X I z => Zpi L X I z
end
theorem Yam {x : V} {r : List V} {l : List Value} (h : Zbf (x :: r) l) : ∃ b t, l = b :: t ∧ Zbv x b ∧ Zbf r t := by
 cases h with
 | cons p P => exact ⟨_, _, rfl, p, P⟩
section
variable {X : Cx}
theorem Zo2 : ∀ {cs : List Addr} {its : List Value}, Zbf (cs.map .ref) its -> its = cs.map .ref := by
 intro cs
 induction cs with
 | nil => intro its rv; cases rv; rfl
 | cons a r ih =>
  intro its rv
  obtain ⟨b, t, rfl, p1, p2⟩ := Yam rv
  have p1 : b = Value.ref a := p1
  rw [p1, ih p2]; rfl
noncomputable def Zs8 (cs : List Addr) : TA := fun _ H Q => Q (cs.map .ref) H
theorem Zw0 : PA X [] (Zs8 []) := Zim
theorem Zit {x : Str} {c : Addr} {cs : List Addr} {es : List Expr} {p : Pos} (hg : Gl X x) (hm : X.mg x = some (.ref c)) (h : PA X es (Zs8 cs)) (hd : (x == ("__debug__" : Str)) = false := by decide) (hs : starEach (.Name x p :: es) X.env = (false, eval (.Name x p) X.env) :: starEach es X.env := by rfl) : PA X (.Name x p :: es) (Zs8 (c :: cs)) :=
 Zdx (Zmo (v := .ref c) hg hm rfl hd) h hs
end
section
variable {X : Cx}
theorem Yao {st : Stmt} {t : TS} (h : PS X.nox st t) : PS X st t := by
 intro pins s σ H D I q
 refine wpAny_mono (h pins s σ H D (I.wish _) q) (fun f s1 z => ?_) fun _ _ z => z.elim
 cases f with
 | next => obtain ⟨σ1, H1, I1, z⟩ := z; exact ⟨σ1, H1, I1.unwish, z⟩
 | brk => obtain ⟨σ1, H1, I1, z⟩ := z; exact ⟨σ1, H1, I1.unwish, z⟩
 | cont => obtain ⟨σ1, H1, I1, z⟩ := z; exact ⟨σ1, H1, I1.unwish, z⟩
 | ret u => obtain ⟨v, σ1, H1, I1, r, z⟩ := z; exact ⟨v, σ1, H1, I1.unwish, r, z⟩
theorem Yar {es : List Expr} {t : TA} (h : PA X.nox es t) : PA X es t := by
 intro pos pins s σ H Q I q
 refine wpAny_mono (h pos pins s σ H Q (I.wish _) q) (fun us s1 z => ?_) fun _ _ z => z.elim
 obtain ⟨vs, H1, I1, r, z⟩ := z
 exact ⟨vs, H1, I1.unwish, r, z⟩
theorem Ztc {C : Addr} {st : Stmt} {sts : List Stmt} {f : SF} {b : XFs} (h1 : PSf X.nox st f) (h2 : PXf X C sts b) : PXf X C (st :: sts) (Zzf f b) := Zv7 (Yao h1) h2
theorem Zqt {C : Addr} {c : Expr} {as sts : List Stmt} {pos : Pos} {t : TF} {b : XFs} (hc : PTf X.nox c t) (ha : PXf X C as b) : PXf X C (.If c as [] pos :: sts) (xIf t b) := px_if (PT.nox hc) ha
theorem Zrv {C : Addr} {sts : List Stmt} {e : Expr} {pos np cpos : Pos} {x : Str} {fe : EF} (hc : X.calm = true) (T : ExcT X.K X.mg x C) (hg : Gl X x) (hf : PAf X.nox [e] (Zaa fe Zae)) (hdb : (x == ("__debug__" : Str)) = false := by decide) (he : starEach [e] X.env = (false, eval e X.env) :: starEach [] X.env := by exact Zav rfl) :
  PXf X C (.Raise (some (.Call (.Name x np) [e] [] cpos)) none pos :: sts) (Zgo fe) := Ztg hc T hg (Yar hf) hdb he
end
theorem Zgk {K : PySem.W.Frag} {hp : Heap} {mg : Str -> Option Value} {n : Str} {c : Addr} (X : K.In hp) (G : hp.Ns mainGlobals mg) (e : nsIn K mainGlobals n = some (some (.ref c))) : mg n = some (.ref c) := PySem.W.mg_of X G e
end DL
namespace DL
open PySem PySem.Spec PyProof.Rows L2
open PySem.W (KasT kas_rev kas_asc kas_desc kas_tail3 kas_descPart kas_count kas_place kas_bin kas_sort)
section
variable {n : Nat}
variable (h0 : 0 < n)
include h0
end
section
variable {X : Cx}
theorem Ztt {h : Heap} {vs : Array Value} {xs : List PyData} {as : List Addr} {d : PyData} (rs : ReadsAll h vs.toList xs as) (hxs : PyData.canLayAll0 xs = true) :
  vs.toList.map (fun y => PyData.eqv (SeqAt.readOf h y) d) = xs.map fun z => PyData.eqv z d := by
 have e := SeqAt.readsAll_map xs _ _ hxs rs
 rw [← e, List.map_map]
 rfl
noncomputable def Zhj (x : D) (ds : List D) (H : HD) : Option (D × HD) := match x, ds with
 | .ref n, [d] => match H[n]? with
  | some (.lst _) => (dat (.ref n) H).bind fun p => (dat d H).bind fun q => (Zen p).bind fun ps => (ps.findIdx? fun z => PyData.eqv z q).bind fun j => if j ≤ 1000000 then some (.int (j : Nat), H) else none
  | _ => none
 | _, _ => none
theorem Zn7 (hu : X.A.units + 64 < cLine) : MtF X "list.index" Zhj := by
 rintro pins s σ H x xs v us Q I rx rv ⟨ι, dx, ds, Hd, d, Hd', hr, r1, P, e, q⟩
 unfold Zhj at e
 split at e
 ·rename_i n d1
  split at e
  ·rename_i zs hn
   obtain ⟨z, rfl, rz⟩ := Zj7 P
   obtain ⟨u, rfl, ru⟩ := rv.one
   obtain ⟨p, e1, e⟩ := Zo e
   obtain ⟨p2, e2, e⟩ := Zo e
   obtain ⟨ys, e3, e⟩ := Zo e
   obtain ⟨j, e4, e⟩ := Zo e
   split at e
   ·rename_i hj
    cases e
    obtain ⟨t1, c1, k1⟩ := Zbp e1
    obtain ⟨t2, c2, k2⟩ := Zbp e2
    obtain ⟨as, ra⟩ := Zbl I hr _ _ t1 r1 rx
    obtain ⟨bs, rb⟩ := Zbl I hr _ _ t2 rz ru
    obtain ⟨ws, rfl⟩ : ∃ ws, p = .list ws := by
     rw [toP] at t1
     simp only [hn] at t1
     obtain ⟨ws, _, rfl⟩ := Zm t1
     exact ⟨ws, rfl⟩
    cases e3
    simp only [PyData.canLay0] at c1
    simp only [PyData.depth] at k1
    cases ra with
    | list h1 h2 h3 h4 =>
     rename_i a o its m as2
     obtain ⟨cl, dd, dt, sl⟩ := o
     cases h2
     cases h3
     obtain ⟨hj2, f1, f2⟩ := List.findIdx?_eq_some_iff_getElem.mp e4
     have em := Ztt (d := p2) h4 c1
     have hsz : its.size = ys.length := by
      have := congrArg List.length em
      simpa using this
     have at' : ∀ k (hk : k < its.size), PyData.eqv (SeqAt.readOf s.heap its[k]) p2 = PyData.eqv (ys[k]'(by omega)) p2 := by
      intro k hk
      have := congrArg (fun l => l[k]?) em
      simp only [List.getElem?_map] at this
      rw [List.getElem?_eq_getElem (by simpa using hk), List.getElem?_eq_getElem (by omega)] at this
      simpa using this
     refine call_meets PySem.F.slot_list_index ⟨_, h1, rfl⟩ PySem.F.entry_list_index (PySem.F.args_list_index_2 _ _) (SeqAt.list_indexAt _ _ _ dd sl u _ j (by omega) (by omega) ?_ ?_) ⟨h1, SeqAt.items_eqAt h4 rb c1 c2 (by omega), ?_⟩
     ·rw [at' j (by omega)]; exact f1
     ·intro m hm hmj
      rw [at' m hm]
      have := f2 m hmj
      simpa using this
     ·exact ⟨.int _, H, I.tok _, ⟨_, rfl⟩, q _ H ι Le.refl hr (by simp)⟩
   ·cases e
  ·cases e
 ·cases e
end
end DL
namespace DL
open PySem PySem.Spec PyProof.Rows L2 PySem.W
noncomputable def Zej (s : Stmt) : List Stmt := match s with
 | .ClassDef _ _ _ body _ _ _ _ _ _ _ => body
 | _ => []
noncomputable def Zvu (f : Str) (v : D) : List (Str × D) -> List (Str × D)
 | [] => [(f, v)]
 | (g, x) :: r => if g = f then (g, v) :: r else (g, x) :: Zvu f v r
section
variable {K : Frag} {H : Hp} {ι : List Addr}
theorem Zqd {f : Str} {d : D} {v : V} (r : Rep K H ι d v) : ∀ {fs : List (Str × D)} {xs : List (Str × V)}, Paired (Yaj K H ι) fs xs -> Paired (Yaj K H ι) (Zvu f d fs) (Zii f v xs)
 | _, _, .nil => .cons ⟨rfl, r⟩ .nil
 | _, _, .cons (a := (g, x)) (b := (g', y)) ⟨h1, h2⟩ t => by
  have h1 : g = g' := h1
  subst h1
  unfold Zvu Zii
  by_cases e : g = f
  ·rw [if_pos e, if_pos e]; exact .cons ⟨rfl, r⟩ t
  ·rw [if_neg e, if_neg e]; exact .cons ⟨rfl, h2⟩ (Zqd r t)
theorem Zfv {f : Str} : ∀ {fs : List (Str × D)} {xs : List (Str × V)}, Paired (Yaj K H ι) fs xs -> (fs.lookup f = none -> xs.lookup f = none) ∧ ∀ d, fs.lookup f = some d -> ∃ v, xs.lookup f = some v ∧ Rep K H ι d v
 | _, _, .nil => ⟨fun _ => rfl, fun d e => (by cases e)⟩
 | _, _, .cons (a := (g, x)) (b := (g', y)) ⟨h1, h2⟩ t => by
  have h1 : g = g' := h1
  subst h1
  rw [List.lookup_cons, List.lookup_cons]
  cases f == g with
  | true => exact ⟨fun e => (by cases e), fun d e => (by cases e; exact ⟨y, rfl, h2⟩)⟩
  | false => exact Zfv t
end
structure Kl (K : Frag) (cn : Str) (fl : List Str) : Prop where
 ex : ∃ C, nsIn K mainGlobals cn = some (some (.ref C)) ∧ Cls K C ∧ ∀ f ∈ fl, Zgl K C f
noncomputable def Zg7 (cn : Str) (fo : EF) (f : Str) : EF := fun σ H => (fo σ H).bind fun o => match o.1 with
 | .ref n => match o.2[n]? with
  | some (.obj c fs) => if c = cn then (fs.lookup f).map fun d => (d, o.2) else none
  | _ => none
 | _ => none
noncomputable def Zmm (cn : Str) (fo fv : EF) (f : Str) : SF := fun σ H => (fv σ H).bind fun y => (fo σ y.2).bind fun o => match o.1 with
 | .ref n => match o.2[n]? with
  | some (.obj c fs) => if c = cn ∧ fs.length < 1000 then some (.nx, σ, o.2.set n (.obj c (Zvu f y.1 fs))) else none
  | _ => none
 | _ => none
section
variable {X : Cx} {o e value : Expr} {es : List Expr} {cn f : Str} {fl : List Str} {fo fv : EF} {pos pos' : Pos}
theorem Kl.at {K : Frag} (T : Kl K cn fl) {C : Addr} (h : nsIn K mainGlobals cn = some (some (.ref C))) : Cls K C ∧ ∀ f ∈ fl, Zgl K C f := by
 obtain ⟨C', h1, h2, h3⟩ := T.ex
 rw [h] at h1
 cases h1
 exact ⟨h2, h3⟩
theorem Zwb (T : Kl X.K cn fl) (hf : f ∈ fl) (ho : PEf X o fo) (hb : attributeBase o f X.env (eval o X.env) = eval o X.env := by rfl) : PEf X (.Attribute o f pos) (Zg7 cn fo f) := by
 refine PEi (Yai ho hb) fun σ H Q zz => ?_
 obtain ⟨ι, σd, Hd, d, Hd', s, hr, e, q⟩ := zz
 obtain ⟨⟨x, H1⟩, e1, e0⟩ := Zo e
 clear e
 have e := e0
 clear e0
 refine ⟨ι, σd, Hd, x, H1, s, hr, e1, fun v H' ι' l h r => ?_⟩
 dsimp only at e
 split at e
 ·rename_i n
  split at e
  ·rename_i c fs en
   split at e
   ·rename_i hc
    subst hc
    obtain ⟨d', el, e⟩ := Zm e
    cases e
    obtain ⟨a, rfl, ha⟩ := Zan.mp r
    obtain ⟨a', ha', C, dx, xs, hns, hH, hp⟩ := h.at en
    rw [ha] at ha'
    cases ha'
    obtain ⟨v', l', r'⟩ := (Zfv hp).2 _ el
    exact ⟨a, C, dx, xs, v', rfl, hH, (T.at hns).1, (T.at hns).2 f hf, l', q v' H' ι' l h r'⟩
   ·cases e
  ·cases e
 ·cases e
theorem Zr0 (T : Kl X.K cn fl) (hf : f ∈ fl) (ho : PEf X o fo) (hv : PEf X value fv) (hs : swapsWith value (some (.Attribute o f pos')) pos.line X.env = pure false := by rfl) : PSf X (.Assign [.Attribute o f pos'] value pos) (Zmm cn fo fv f) := by
 refine PSi (Zyz ho hv hs) fun E σ H zz => ?_
 obtain ⟨ι, σd, Hd, fl', σd', Hd', s, hr, e, q⟩ := zz
 obtain ⟨⟨y, H1⟩, e1, e0⟩ := Zo e
 clear e
 obtain ⟨⟨x, H2⟩, e2, e⟩ := Zo e0
 clear e0
 refine ⟨ι, σd, Hd, y, H1, s, hr, e1, fun vy H' ι' l h ry => ⟨ι', σd, H1, x, H2, s.mono l, h, e2, fun vx H'' ι'' l2 h2 rx => ?_⟩⟩
 dsimp only at e
 split at e
 ·rename_i n
  split at e
  ·rename_i c fs en
   split at e
   ·rename_i hc
    obtain ⟨rfl, hlen⟩ := hc
    cases e
    obtain ⟨a, rfl, ha⟩ := Zan.mp rx
    obtain ⟨a', ha', C, dx, xs, hns, hH, hp⟩ := h2.at en
    rw [ha] at ha'
    cases ha'
    have ll : Le X.K H'' ι'' (upd H'' a (.ins C dx (Zii f vy xs))) ι'' := Le.upd (List.mem_of_getElem? ha) hH True.intro _
    have hp2 : Paired (Yaj X.K (upd H'' a (.ins C dx (Zii f vy xs))) ι'') (Zvu f y fs) (Zii f vy xs) := Prd.imp (Zqd (ry.mono l2) hp) fun p x _ z => ⟨z.1, z.2.mono ll⟩
    exact ⟨a, C, dx, xs, rfl, hH, (T.at hns).1, (T.at hns).2 f hf, by rw [← Prd.len hp]; exact hlen, q _ _ ι'' ((l.trans l2).trans ll) (h2.upd ha hH True.intro ⟨C, dx, _, hns, Zaq, hp2⟩) (s.mono ((l.trans l2).trans ll))⟩
   ·cases e
  ·cases e
 ·cases e
end
structure FnM (P : Program) (w : World) (K : Frag) (mg : Str -> Option Value) (base : Heap) (k : Nat) (cn m : Str) (ps : List Str) (F : FF) : Prop where
 ex : ∃ C f fd, nsIn K mainGlobals cn = some (some (.ref C)) ∧ Cls K C ∧ Meth K C m f ∧ FnOk P w K mg base CX0 k f fd ps (spF K ps.length F) ∧ Zfd K fd ps []
structure FnI (P : Program) (w : World) (K : Frag) (mg : Str -> Option Value) (base : Heap) (k : Nat) (cn : Str) (ps : List Str) (F : FF) : Prop where
 ex : ∃ C f fd, mg cn = some (.ref C) ∧ nsIn K mainGlobals cn = some (some (.ref C)) ∧ Mk K C f ∧ FnOk P w K mg base CX0 k f fd ps (spF K ps.length F) ∧ Zfd K fd ps []
noncomputable def Zfo (cn m : Str) (n : Nat) (F : FF) (fo : EF) (fa : AF) : EF := fun σ H => (fo σ H).bind fun o => match o.1 with
 | .ref k => match o.2[k]? with
  | some (.obj c fs) => if c = cn ∧ fs.lookup m = none then (fa σ o.2).bind fun p => if p.1.length + 1 = n then F (.ref k :: p.1) p.2 else none else none
  | _ => none
 | _ => none
noncomputable def eMk (cn : Str) (n : Nat) (F : FF) (fa : AF) : EF := fun σ H => (fa σ H).bind fun p => if p.1.length + 1 = n then (F (.ref p.2.length :: p.1) (p.2 ++ [.obj cn []])).bind fun r => match r.1 with
 | .non => some (.ref p.2.length, r.2)
 | _ => none
 else none
section
variable {X : Cx} {o e : Expr} {es : List Expr} {cn m x : Str} {k n : Nat} {ps : List Str} {F : FF} {fo : EF} {fa : AF} {pos apos p : Pos}
theorem Zqr {C f : Addr} {σ : L2.St} {H : Hp} {Q : VK} (hns : nsIn X.K mainGlobals cn = some (some (.ref C))) (z : rdE X.K (Zfo cn m ps.length F fo fa) σ H Q) : Zvs C m (spF X.K ps.length F) [] E0 (rdE X.K fo) (rdA X.K fa) σ H Q := by
 obtain ⟨ι, σd, Hd, d, Hd', s, hr, e, q⟩ := z
 obtain ⟨⟨x, H1⟩, e1, e0⟩ := Zo e
 clear e
 have e := e0
 clear e0
 refine ⟨ι, σd, Hd, x, H1, s, hr, e1, fun v H' ι' l h r => ?_⟩
 dsimp only at e
 split at e
 ·rename_i n
  split at e
  ·rename_i c fs en
   split at e
   ·rename_i hc
    obtain ⟨rfl, hlk⟩ := hc
    obtain ⟨⟨ds, H2⟩, e2, e0⟩ := Zo e
    clear e
    have e := e0
    clear e0
    dsimp only at e
    split at e
    ·rename_i hl
     obtain ⟨a, rfl, ha⟩ := Zan.mp r
     obtain ⟨a', ha', C', dx, xs, hns', hH, hp⟩ := h.at en
     rw [ha] at ha'
     cases ha'
     rw [hns] at hns'
     cases hns'
     refine ⟨a, dx, xs, rfl, hH, (Zfv hp).1 hlk, ι', σd, H1, ds, H2, s.mono l, h, e2, fun vs H'' ι'' l2 h2 P => ?_⟩
     exact ⟨ι'', .ref n :: ds, H2, d, Hd', hl, h2, .cons (r.mono l2) (by rw [List.append_nil]; exact P), e, fun v2 H3 ι3 l3 h3 r3 => q v2 H3 ι3 ((l.trans l2).trans l3) h3 r3⟩
    ·cases e
   ·cases e
  ·cases e
 ·cases e
theorem Zsh {pl : Sem Bool} (G : FnM X.prog X.w X.K X.mg X.base k cn m ps F) (hr : Room k X.A) (ho : PEf X o fo) (ha : PAf X (e :: es) fa)
  (hst : starEach (e :: es) X.env = (false, eval e X.env) :: starEach es X.env := by exact Zav rfl) (hpl : (backTo pos (starEach es X.env)).any (·.1) = false := by exact Zbx rfl)
  (ht : eval (.Call (.Attribute o m apos) (e :: es) [] pos) X.env = (do
   let ov ← eval o X.env
   standAt apos.atName
   let (f, first) ← holding [ov] (getMethod ov m pl)
   callWith pos f first (backTo pos (starEach (e :: es) X.env)) (backToKw pos (keywordEach [] X.env))) := by rfl) (hn : ps.length = n := by rfl) : PEf X (.Call (.Attribute o m apos) (e :: es) [] pos) (Zfo cn m n F fo fa) := by
 subst hn
 obtain ⟨C, f, fd, hns, hC, hM, hF, hb⟩ := G.ex
 exact PEi (Zwg (pl := pl) (E := E0) ho hC hM hF hr hb .nil Zsn ha hst hpl ht) fun σ H Q z => Zqr (f := f) hns z
theorem Zde {pl : Sem Bool} (G : FnM X.prog X.w X.K X.mg X.base k cn m ps F) (hr : Room k X.A) (ho : PEf X o fo)
  (ht : eval (.Call (.Attribute o m apos) [] [] pos) X.env = (do
   let ov ← eval o X.env
   standAt apos.atName
   let (f, first) ← holding [ov] (getMethod ov m pl)
   callWith pos f first (backTo pos (starEach [] X.env)) (backToKw pos (keywordEach [] X.env))) := by rfl) (hn : ps.length = n := by rfl) : PEf X (.Call (.Attribute o m apos) [] [] pos) (Zfo cn m n F fo Zae) := by
 subst hn
 obtain ⟨C, f, fd, hns, hC, hM, hF, hb⟩ := G.ex
 refine PEi (Zt2 (pl := pl) (E := E0) ho hC hM hF hr hb .nil Zsn ht) fun σ H Q z => ?_
 obtain ⟨ι, σd, Hd, d, Hd', s, hr, e, q⟩ := Zqr (f := f) hns z
 refine ⟨ι, σd, Hd, d, Hd', s, hr, e, fun v H' ι' l h r => ?_⟩
 obtain ⟨a, dx, fs, h1, h2, h3, ι2, σd2, Hd2, ds, Hd3, s2, hr2, e2, q2⟩ := q v H' ι' l h r
 cases e2
 exact ⟨a, dx, fs, h1, h2, h3, q2 [] H' ι2 Le.refl hr2 .nil⟩
theorem Zvl {C : Addr} {σ : L2.St} {H : Hp} {Q : VK} (hns : nsIn X.K mainGlobals cn = some (some (.ref C))) (z : rdE X.K (eMk cn ps.length F fa) σ H Q) : Yas C (spF X.K ps.length F) [] E0 (rdA X.K fa) σ H Q := by
 obtain ⟨ι, σd, Hd, d, Hd', s, hr, e, q⟩ := z
 obtain ⟨⟨ds, H1⟩, e1, e0⟩ := Zo e
 clear e
 have e := e0
 clear e0
 refine ⟨ι, σd, Hd, ds, H1, s, hr, e1, fun vs H' ι' l h P x dx z1 z2 z3 => ?_⟩
 dsimp only at e
 split at e
 ·rename_i hl
  obtain ⟨⟨r, H2⟩, e2, e0⟩ := Zo e
  clear e
  have e := e0
  clear e0
  dsimp only at e
  split at e
  ·cases e
   have zx : upd H' dx (.own x) x = none := by rw [Zak (Ne.symm z3)]; exact z1
   have L : Le X.K H' ι' (upd (upd H' dx (.own x)) x (.ins C dx [])) (ι' ++ [x]) := (Le.fresh z2 _).trans (Le.fresh1 zx _)
   have hh : HRep X.K (upd (upd H' dx (.own x)) x (.ins C dx [])) (ι' ++ [x]) (H1 ++ [.obj cn []]) := (h.tup z2 _).new zx ⟨C, dx, [], hns, Zaq, .nil⟩
   have rx : Rep X.K (upd (upd H' dx (.own x)) x (.ins C dx [])) (ι' ++ [x]) (.ref H1.length) (.ref x) := Zan.mpr ⟨x, rfl, by rw [← h.len]; simp⟩
   refine ⟨ι' ++ [x], .ref H1.length :: ds, H1 ++ [.obj cn []], .non, _, hl, hh, .cons rx (by rw [List.append_nil]; exact Prd.imp P fun p x _ z => z.mono L), e2, fun v H3 ι3 l3 h3 r3 => ⟨by simpa using r3, q _ H3 ι3 ((l.trans L).trans l3) h3 (rx.mono l3)⟩⟩
  ·cases e
 ·cases e
theorem Zst (G : FnI X.prog X.w X.K X.mg X.base k cn ps F) (hr : Room (k + 1) X.A) (hg : Gl X cn) (ha : PAf X (e :: es) fa) (hdb : (cn == ("__debug__" : Str)) = false := by decide) (he : starEach (e :: es) X.env = (false, eval e X.env) :: starEach es X.env := by exact Zav rfl) (hpl : (backTo pos (starEach es X.env)).any (·.1) = false := by exact Zbx rfl) (hn : ps.length = n := by rfl) :
  PEf X (.Call (.Name cn p) (e :: es) [] pos) (eMk cn n F fa) := by
 subst hn
 obtain ⟨C, f, fd, hm, hns, hM, hF, hb⟩ := G.ex
 exact PEi (Zv3 (E := E0) hM hF hr hg hm hb .nil Zsn ha hdb he hpl) fun σ H Q z => Zvl hns z
end
structure Tm (K : Frag) (cn m qual : Str) (st : Stmt) : Prop where
 ex : ∃ C f fd, nsIn K mainGlobals cn = some (some (.ref C)) ∧ Cls K C ∧ Meth K C m f ∧ Fun K m qual st f fd
structure Ti (K : Frag) (mg : Str -> Option Value) (cn qual : Str) (st : Stmt) : Prop where
 ex : ∃ C f fd, mg cn = some (.ref C) ∧ nsIn K mainGlobals cn = some (some (.ref C)) ∧ Mk K C f ∧ Fun K "__init__" qual st f fd
section
variable {K : Frag} {hp : Heap} {mg : Str -> Option Value} {cn m qual : Str} {st : Stmt} {C f : Addr} {oc : Value} {od an : Option Addr} {osl : Array (Option Value)} {kV doc pm cdv ct : Value}
theorem tm_mk (a : nsIn K mainGlobals cn = some (some (.ref C))) (b : plainGet K C Str.empty = true) (c : hasDictIn K C = true) (d : plainOver K C = true) (e : findIn K (.ref C) "__setattr__" = some (some (.builtin "object.__setattr__"))) (g : findIn K (.ref C) m = some (some (.ref f))) (h : isFn K (.ref f) = true) (i : keepIn K (.ref f) = true)
  (j : K.lookup f = some ⟨oc, od, .func (fnOf m qual (Zcs st) (Zbc st) (Zad st) .none kV doc pm an cdv ct), osl⟩) (l : codeIn K cdv qual = true) : Tm K cn m qual st :=
 ⟨C, f, _, a, ⟨b, c, d, e⟩, ⟨g, h, i⟩, Zpq j l i⟩
theorem ti_mk (X : K.In hp) (G : hp.Ns mainGlobals mg) (a : nsIn K mainGlobals cn = some (some (.ref C))) (b : makesIn K C = true) (c : findIn K (.ref C) "__init__" = some (some (.ref f))) (d : isFn K (.ref f) = true) (e : keepIn K (.ref C) = true) (i : keepIn K (.ref f) = true)
  (j : K.lookup f = some ⟨oc, od, .func (fnOf "__init__" qual (Zcs st) (Zbc st) (Zad st) .none kV doc pm an cdv ct), osl⟩) (l : codeIn K cdv qual = true) : Ti K mg cn qual st :=
 ⟨C, f, _, mg_of X G a, a, ⟨b, c, d, e⟩, Zpq j l i⟩
theorem kl_mk (a : nsIn K mainGlobals cn = some (some (.ref C))) (b : plainGet K C Str.empty = true) (c : hasDictIn K C = true) (d : plainOver K C = true) (e : findIn K (.ref C) "__setattr__" = some (some (.builtin "object.__setattr__"))) : Kl K cn [] :=
 ⟨C, a, ⟨b, c, d, e⟩, nofun⟩
theorem Zul {fl : List Str} {x : Str} (T : Kl K cn fl) (a : nsIn K mainGlobals cn = some (some (.ref C))) (g : findIn K (.ref C) x = some none) : Kl K cn (x :: fl) := by
 obtain ⟨h1, h2⟩ := T.at a
 refine ⟨C, a, h1, fun y hy => ?_⟩
 rcases List.mem_cons.mp hy with rfl | hy
 ·exact g
 ·exact h2 y hy
end
section
variable {P : Program} {w : World} {K : Frag} {mg : Str -> Option Value} {base : Heap} {cn m qual : Str} {st : Stmt} {N ps : List Str} {k : Nat} {b : SF}
theorem Zm1 (T : Tm K cn m qual st) (S : FnScope N ps (Zad st))
  (hbd : ∀ (kV doc pm : Value) (an : Option Addr) (cdv ct : Value) (us : List Value), us.length = ps.length -> bindArgs (fnOf m qual (Zcs st) (Zbc st) (Zad st) .none kV doc pm an cdv ct) ⟨us, []⟩ = pure (ps.zip us))
  (hb : ∀ (f : Addr) (cdv : Value) (A : Around) (outer : List Env) (s : Shared) (H : Hp) (E : XK), Room k (A.deeper (envOfC qual (Zad st) s.heap.objs.size f cdv)) →
   Zna (Zey CX0 P w K mg base N qual (Zad st) f cdv A outer s H E).nox (Zbc st) b) : FnM P w K mg base (k + 1) cn m ps (Za5 ps.length N.length b) := by
 obtain ⟨C, f, fd, h1, h2, h3, F⟩ := T.ex
 exact ⟨C, f, fd, h1, h2, h3, fn_f F S fun cdv A outer s H E hr => hb f cdv A outer s H E hr, F.binds hbd⟩
theorem fi_mk (T : Ti K mg cn qual st) (S : FnScope N ps (Zad st))
  (hbd : ∀ (kV doc pm : Value) (an : Option Addr) (cdv ct : Value) (us : List Value), us.length = ps.length → bindArgs (fnOf "__init__" qual (Zcs st) (Zbc st) (Zad st) .none kV doc pm an cdv ct) ⟨us, []⟩ = pure (ps.zip us))
  (hb : ∀ (f : Addr) (cdv : Value) (A : Around) (outer : List Env) (s : Shared) (H : Hp) (E : XK), Room k (A.deeper (envOfC qual (Zad st) s.heap.objs.size f cdv)) →
   Zna (Zey CX0 P w K mg base N qual (Zad st) f cdv A outer s H E).nox (Zbc st) b) : FnI P w K mg base (k + 1) cn ps (Za5 ps.length N.length b) := by
 obtain ⟨C, f, fd, h0, h1, h3, F⟩ := T.ex
 exact ⟨C, f, fd, h0, h1, h3, fn_f F S fun cdv A outer s H E hr => hb f cdv A outer s H E hr, F.binds hbd⟩
end
theorem Zsk {P : Program} {w : World} {K : Frag} {mg : Str -> Option Value} {base : Heap} {k : Nat} {x y : Str} {ps : List Str} {F : FF} (G : Fn P w K mg base k x ps F) (h : mg y = mg x) : Fn P w K mg base k y ps F := by
 obtain ⟨f, fd, h1, h2, h3, h4, h5⟩ := G.ex
 exact ⟨f, fd, h1, h2, h3, by rw [h]; exact h4, h5⟩
theorem al_mk {K : Frag} {hp : Heap} {mg : Str -> Option Value} {x y : Str} {v : Value} (X : K.In hp) (G : hp.Ns mainGlobals mg) (a : nsIn K mainGlobals y = some (some v)) (b : nsIn K mainGlobals x = some (some v)) : mg y = mg x := by
 rw [mg_of X G a, mg_of X G b]
noncomputable def xOr (a b : XFs) : XFs := fun σ H => match a σ H with
 | some r => some r
 | none => b σ H
theorem px_or {X : Cx} {C : Addr} {sts : List Stmt} {a b : XFs} (ha : PXf X C sts a) (hb : PXf X C sts b) : PXf X C sts (xOr a b) := by
 rintro pins s σ H D I ⟨ι, σd, Hd, Hd', ss, hr, e, q⟩
 unfold xOr at e
 split at e
 ·rename_i r er
  cases e
  exact ha pins s σ H D I ⟨ι, σd, Hd, _, ss, hr, er, q⟩
 ·exact hb pins s σ H D I ⟨ι, σd, Hd, Hd', ss, hr, e, q⟩
structure FnXM (P : Program) (w : World) (K : Frag) (mg : Str -> Option Value) (base : Heap) (k : Nat) (cn m : Str) (ps : List Str) (xn : Str) (F : XFF) : Prop where
 ex : ∃ C f fd, nsIn K mainGlobals cn = some (some (.ref C)) ∧ Cls K C ∧ Meth K C m f ∧ (∀ Cx, ExcT K mg xn Cx -> FnOk P w K mg base (CXe P w) k f fd ps (spX K Cx ps.length F)) ∧ Zfd K fd ps []
theorem Zu4 {P : Program} {w : World} {K : Frag} {mg : Str -> Option Value} {base : Heap} {cn m qual xn : Str} {st : Stmt} {N ps : List Str} {k : Nat} {b : XFs} (T : Tm K cn m qual st) (S : FnScope N ps (Zad st))
  (hbd : ∀ (kV doc pm : Value) (an : Option Addr) (cdv ct : Value) (us : List Value), us.length = ps.length -> bindArgs (fnOf m qual (Zcs st) (Zbc st) (Zad st) .none kV doc pm an cdv ct) ⟨us, []⟩ = pure (ps.zip us))
  (hb : ∀ C, ExcT K mg xn C -> ∀ (f : Addr) (cdv : Value) (A : Around) (outer : List Env) (s : Shared) (H : Hp) (E : XK), Room k (A.deeper (envOfC qual (Zad st) s.heap.objs.size f cdv)) →
   PXf (Zey (CXe P w) P w K mg base N qual (Zad st) f cdv A outer s H E) C (Zbc st) b) : FnXM P w K mg base (k + 1) cn m ps xn (Zsx ps.length N.length b) := by
 obtain ⟨C, f, fd, h1, h2, h3, F⟩ := T.ex
 exact ⟨C, f, fd, h1, h2, h3, fun Cx E => fx_f F S fun cdv A outer s H E1 hr => hb Cx E f cdv A outer s H E1 hr, F.binds hbd⟩
noncomputable abbrev XTs := SD -> HD -> Option (Str × HD)
noncomputable def Rz (X : Cx) (pins : List (Addr × Obj)) (σ : L2.St) (H : Hp) (ι : List Addr) (C : Addr) (Hd' : HD) (e : Value) (s' : Shared) : Prop :=
 ∃ s1 H1, Inv X pins σ H1 s1 ∧ CXe X.prog X.w X.stack H1 s1 (fun Cv _ H' => Cv = .ref C ∧ ∃ ι', Le X.K H ι H' ι' ∧ HRep X.K H' ι' Hd') e s'
noncomputable def Rzz (X : Cx) (pins : List (Addr × Obj)) (σ : L2.St) (H : Hp) (ι : List Addr) (cn : Str) (Hd' : HD) (L : List Str) (e : Value) (s' : Shared) : Prop := cn ∈ L ∧ ∃ C, ExcT X.K X.mg cn C ∧ Rz X pins σ H ι C Hd' e s'
noncomputable def PXe (X : Cx) (L : List Str) (e : Expr) (x : XTs) : Prop := ∀ (pins : List (Addr × Obj)) (s : Shared) (σ : L2.St) (H : Hp), Inv X pins σ H s -> ∀ ι σd Hd cn Hd', SRep X.K H ι σ σd -> HRep X.K H ι Hd -> x σd Hd = some (cn, Hd') →
 wpAny (model X.prog X.w) X.A (eval e X.env) (fun _ _ => False) (Rzz X pins σ H ι cn Hd' L) s
noncomputable def PXs (X : Cx) (L : List Str) (sts : List Stmt) (x : XTs) : Prop := ∀ (pins : List (Addr × Obj)) (s : Shared) (σ : L2.St) (H : Hp), Inv X pins σ H s -> ∀ ι σd Hd cn Hd', SRep X.K H ι σ σd -> HRep X.K H ι Hd -> x σd Hd = some (cn, Hd') →
 wpAny (model X.prog X.w) X.A (execs sts X.env) (fun _ _ => False) (Rzz X pins σ H ι cn Hd' L) s
theorem Rzz.le {X : Cx} {pins : List (Addr × Obj)} {σ : L2.St} {H H1 : Hp} {ι ι1 : List Addr} {cn : Str} {Hd' : HD} {L : List Str} {e : Value} {s' : Shared} (l : Le X.K H ι H1 ι1) (z : Rzz X pins σ H1 ι1 cn Hd' L e s') : Rzz X pins σ H ι cn Hd' L e s' := by
 obtain ⟨h1, C, h2, s1, H2, h3, ex, C', H3, h4, ⟨h5, ι', h6, h7⟩, h8⟩ := z
 exact ⟨h1, C, h2, s1, H2, h3, ex, C', H3, h4, ⟨h5, ι', l.trans h6, h7⟩, h8⟩
noncomputable def Zmq (cn m : Str) (n : Nat) (xn : Str) (F : XFF) (fo : EF) (fa : AF) : XTs := fun σ H => (fo σ H).bind fun o => match o.1 with
 | .ref k => match o.2[k]? with
  | some (.obj c fs) => if c = cn ∧ fs.lookup m = none then (fa σ o.2).bind fun p => if p.1.length + 1 = n then (F (.ref k :: p.1) p.2).map fun H' => (xn, H') else none else none
  | _ => none
 | _ => none
noncomputable def xIfE (t : TF) (a b : XTs) : XTs := fun σ H => (t σ H).bind fun r => if r.1 then a σ r.2 else b σ r.2
section
variable {X : Cx} {L : List Str} {o e c a b : Expr} {es : List Expr} {cn m xn : Str} {k n : Nat} {ps : List Str} {F : XFF} {fo : EF} {fa : AF} {xa xb x : XTs} {t : TF} {pos apos ep tp : Pos} {tn : Str} {as bs : List Stmt}
theorem Zm9 {σd : SD} {Hd Hd' : HD} {cx : Str} (e : Zmq cn m n xn F fo fa σd Hd = some (cx, Hd')) : cx = xn ∧ ∃ k H1 fs ds H2, fo σd Hd = some (.ref k, H1) ∧ H1[k]? = some (.obj cn fs) ∧ fs.lookup m = none ∧ fa σd H1 = some (ds, H2) ∧ ds.length + 1 = n ∧ F (.ref k :: ds) H2 = some Hd' := by
 obtain ⟨⟨x, H1⟩, e1, e0⟩ := Zo e
 clear e
 have e := e0
 clear e0
 dsimp only at e
 split at e
 ·rename_i k0
  split at e
  ·rename_i c0 fs en
   split at e
   ·rename_i hc
    obtain ⟨rfl, hlk⟩ := hc
    obtain ⟨⟨ds, H2⟩, e2, e0⟩ := Zo e
    clear e
    have e := e0
    clear e0
    dsimp only at e
    split at e
    ·rename_i hl
     obtain ⟨H3, e3, e4⟩ := Zm e
     cases e4
     exact ⟨rfl, k0, H1, fs, ds, H2, e1, en, hlk, e2, hl, e3⟩
    ·cases e
   ·cases e
  ·cases e
 ·cases e
theorem Zn0 {f : Addr} {fd : FuncData} {C : Addr} {pins : List (Addr × Obj)} {s : Shared} {σ : L2.St} {H H1 : Hp} {ι ι1 : List Addr} {us : List Value} {vs : List V} {ds : List D} {H2 Hd' : HD} (G : FnOk X.prog X.w X.K X.mg X.base (CXe X.prog X.w) k f fd ps (spX X.K C ps.length F)) (T : ExcT X.K X.mg xn C) (hL : xn ∈ L) (hr : Room k X.A) (hb : Zfd X.K fd ps [])
  (I : Inv X pins σ H1 s) (r : Zbf vs us) (l : Le X.K H ι H1 ι1) (h : HRep X.K H1 ι1 H2) (P : Paired (Rep X.K H1 ι1) ds vs) (hl : ds.length = ps.length) (e : F ds H2 = some Hd') :
  wpAny (model X.prog X.w) X.A (call (.ref f) us) (fun _ _ => False) (Rzz X pins σ H ι xn Hd' L) s := by
 have sp : spX X.K C ps.length F vs H1 (fun _ _ => False) fun Cv _ H' => Cv = .ref C ∧ ∃ ι', Le X.K H ι H' ι' ∧ HRep X.K H' ι' Hd' := ⟨ι1, ds, H2, Hd', hl, h, P, e, fun H' ι' l2 h2 => ⟨rfl, ι', l.trans l2, h2⟩⟩
 have hl2 : us.length = ps.length := by rw [← r.length]; exact G.len _ _ _ _ sp
 have hb1 := hb s us I.kIn (by rw [List.append_nil]; exact hl2)
 rw [List.append_nil] at hb1
 refine wpAny_call (codeAny_mono (G.run X.A X.stack s H1 ⟨us, []⟩ us vs _ _ hr I.env0 hb1 r sp) fun r s' hq => ?_)
 cases r with
 | ok fl =>
  cases fl with
  | ret u => obtain ⟨v, H', _, _, _, _, _, z⟩ := hq; exact z.elim
  | next => exact False.elim hq
  | brk => exact False.elim hq
  | cont => exact False.elim hq
 | error e => exact ⟨hL, C, T, s, H1, I, hq⟩
theorem Zrp {pl : Sem Bool} (G : FnXM X.prog X.w X.K X.mg X.base k cn m ps xn F) (T : ∃ C, ExcT X.K X.mg xn C) (hL : xn ∈ L) (hr : Room k X.A) (ho : PEf X.nox o fo)
  (ht : eval (.Call (.Attribute o m apos) [] [] pos) X.env = (do
   let ov ← eval o X.env
   standAt apos.atName
   let (f, first) ← holding [ov] (getMethod ov m pl)
   callWith pos f first (backTo pos (starEach [] X.env)) (backToKw pos (keywordEach [] X.env))) := by rfl) (hn : ps.length = n := by rfl) : PXe X L (.Call (.Attribute o m apos) [] [] pos) (Zmq cn m n xn F fo Zae) := by
 subst hn
 intro pins s σ H I ι σd Hd cx Hd' ss hh e
 obtain ⟨rfl, k0, H1, fs, ds, H2, e1, en, hlk, e2, hl, e3⟩ := Zm9 e
 cases e2
 obtain ⟨C, f, fd, hns, hC, hM, hF, hb⟩ := G.ex
 obtain ⟨Cx, T⟩ := T
 refine methodCall_KW (pl := pl) (wpAny_mono (ho pins s σ H (fun v H' => ∃ ι', Rep X.K H' ι' (.ref k0) v ∧ Le X.K H ι H' ι' ∧ HRep X.K H' ι' H1) (I.wish _) ⟨ι, σd, Hd, _, H1, ss, hh, e1, fun v H' ι' l h r => ⟨ι', r, l, h⟩⟩) (fun u s1 z => ?_) fun _ _ z => z.elim) ht
 obtain ⟨v, H1v, I1, rv, ι1, rr, l1, h1⟩ := z
 have I1 : Inv X pins σ H1v s1 := I1.unwish
 obtain ⟨a, rfl, ha⟩ := Zan.mp rr
 obtain ⟨a', ha', C', dx, xs, hns', hH, hp⟩ := h1.at en
 rw [ha] at ha'
 cases ha'
 rw [hns] at hns'
 cases hns'
 obtain rfl : u = Value.ref a := rv
 refine Zew I1 hH hC hM ((Zfv hp).1 hlk) ?_
 exact callWith_K0 (first := [.ref a]) I1.kIn hM.kp (Zn0 (us := [.ref a]) (vs := [.ref a]) (hF Cx T) T hL hr hb I1 (.cons rfl .nil) l1 h1 (.cons rr .nil) hl e3)
theorem Zt4 {pl : Sem Bool} (G : FnXM X.prog X.w X.K X.mg X.base k cn m ps xn F) (T : ∃ C, ExcT X.K X.mg xn C) (hL : xn ∈ L) (hr : Room k X.A) (ho : PEf X.nox o fo) (ha : PAf X.nox (e :: es) fa)
  (hst : starEach (e :: es) X.env = (false, eval e X.env) :: starEach es X.env := by exact Zav rfl) (hpl : (backTo pos (starEach es X.env)).any (·.1) = false := by exact Zbx rfl)
  (ht : eval (.Call (.Attribute o m apos) (e :: es) [] pos) X.env = (do
   let ov ← eval o X.env
   standAt apos.atName
   let (f, first) ← holding [ov] (getMethod ov m pl)
   callWith pos f first (backTo pos (starEach (e :: es) X.env)) (backToKw pos (keywordEach [] X.env))) := by rfl) (hn : ps.length = n := by rfl) : PXe X L (.Call (.Attribute o m apos) (e :: es) [] pos) (Zmq cn m n xn F fo fa) := by
 subst hn
 intro pins s σ H I ι σd Hd cx Hd' ss hh e
 obtain ⟨rfl, k0, H1, fs, ds, H2, e1, en, hlk, e2, hl, e3⟩ := Zm9 e
 obtain ⟨C, f, fd, hns, hC, hM, hF, hb⟩ := G.ex
 obtain ⟨Cx, T⟩ := T
 refine methodCall_KW (pl := pl) (wpAny_mono (ho pins s σ H (fun v H' => ∃ ι', Rep X.K H' ι' (.ref k0) v ∧ Le X.K H ι H' ι' ∧ HRep X.K H' ι' H1) (I.wish _) ⟨ι, σd, Hd, _, H1, ss, hh, e1, fun v H' ι' l h r => ⟨ι', r, l, h⟩⟩) (fun u s1 z => ?_) fun _ _ z => z.elim) ht
 obtain ⟨v, H1v, I1, rv, ι1, rr, l1, h1⟩ := z
 have I1 : Inv X pins σ H1v s1 := I1.unwish
 obtain ⟨a, rfl, ha1⟩ := Zan.mp rr
 obtain ⟨a', ha', C', dx, xs, hns', hH, hp⟩ := h1.at en
 rw [ha1] at ha'
 cases ha'
 rw [hns] at hns'
 cases hns'
 obtain rfl : u = Value.ref a := rv
 refine Zew I1 hH hC hM ((Zfv hp).1 hlk) ?_
 refine callWith_K (first := [.ref a]) (h₀ := X.base) I1.ok.mod.kin hM.kp (wpAny_mono (ha pos pins s1 σ H1v (fun vs H' => ∃ ι', Le X.K H ι H' ι' ∧ HRep X.K H' ι' H2 ∧ Paired (Rep X.K H' ι') ds vs ∧ Rep X.K H' ι' (.ref k0) (.ref a)) (I1.wish _) ⟨ι1, σd, H1, ds, H2, ss.mono l1, h1, e2, fun vs H' ι' l h P => ⟨ι', l1.trans l, h, P, rr.mono l⟩⟩) (fun us s2 z => ?_) fun _ _ z => z.elim) hst hpl
 obtain ⟨vs, H2v, I2, r2, ι2, l2, h2, P2, rr2⟩ := z
 have I2 : Inv X pins σ H2v s2 := I2.unwish
 exact ⟨I2.kIn, Zn0 (us := .ref a :: us) (vs := .ref a :: vs) (hF Cx T) T hL hr hb I2 (.cons rfl r2) l2 h2 (.cons rr2 P2) hl e3⟩
theorem Yae (hc : PTf X.nox c t) (ha : PXe X L a xa) (hb : PXe X L b xb) : PXe X L (.IfExp c a b pos) (xIfE t xa xb) := by
 intro pins s σ H I ι σd Hd cx Hd' ss hh e
 obtain ⟨⟨z, H1⟩, e1, e⟩ := Zo e
 refine wpAny_IfExp (wpAny_mono (hc pins s σ H (fun d H' => d = z ∧ ∃ ι', Le X.K H ι H' ι' ∧ HRep X.K H' ι' H1) (I.wish _) ⟨ι, σd, Hd, z, H1, ss, hh, e1, fun H' ι' l h => ⟨rfl, ι', l, h⟩⟩) (fun d s1 q => ?_) fun _ _ z => z.elim)
 obtain ⟨H2, I2, rfl, ι', l, h⟩ := q
 have I2 : Inv X pins σ H2 s1 := I2.unwish
 cases d with
 | true => exact wpAny_mono (ha pins s1 σ H2 I2 ι' σd H1 cx Hd' (ss.mono l) h (by simpa using e)) (fun _ _ z => z) fun _ _ z => z.le l
 | false => exact wpAny_mono (hb pins s1 σ H2 I2 ι' σd H1 cx Hd' (ss.mono l) h (by simpa using e)) (fun _ _ z => z) fun _ _ z => z.le l
theorem Zw9 (h : PXe X L e x) (hs : swapsWith e (some (.Name tn tp)) ep.line X.env = pure false := by rfl) : PXs X L [.Assign [.Name tn tp] e ep] x := by
 intro pins s σ H I ι σd Hd cx Hd' ss hh e1
 exact wpAny_execs_cons (wpAny_Assign_Name (wpAny_mono (h pins s σ H I ι σd Hd cx Hd' ss hh e1) (fun _ _ z => z.elim) fun _ _ z => z) hs)
end
noncomputable abbrev Xm (X : Cx) (ex : Addr) : Cx := { X with A := X.A.mark (some (.ref ex)), calm := false, xe := fun _ _ => False }
section
variable {X : Cx} {pins : List (Addr × Obj)} {σ : L2.St} {H : Hp} {s : Shared} {ex C : Addr} {o : Obj}
theorem Inv.told (I : Inv X pins σ H s) (n : H ex = none) (g : s.heap.get? ex = some o) (hc : o.cls = .ref C) (new : X.s₀.heap.get? ex = none) (ne : ex ≠ X.env.locals) (nc : ∀ x c, X.env.cells.lookup x = some c -> c ≠ ex) (np : ∀ p ∈ X.pn ++ pins, p.1 ≠ ex) : Inv X pins σ (upd H ex (.ext (Zf8 ex C))) s := by
 have k : ∀ b ho, H b = some ho -> upd H ex (.ext (Zf8 ex C)) b = some ho := fun b ho z => by rw [Zak (Zam z n)]; exact z
 have fr : ∀ b, b ≠ ex -> H b = none -> upd H ex (.ext (Zf8 ex C)) b = none := fun b h z => by rw [Zak h]; exact z
 refine ⟨I.ok, I.os, I.bare, ⟨I.base.keep, I.base.slot, fun b o eb n hx => fr b (fun z => by rw [z, new] at eb; cases eb) (I.base.free b o eb n hx), I.base.there, fun b xs z => k b _ (I.base.tups b xs z), fun b o u z => k b _ (I.base.frzs b o u z), fun b ps z => let ⟨m, q⟩ := I.base.tbls b ps z; ⟨m, k b _ q⟩⟩, I.loc, I.cell, fr _ (Ne.symm ne) I.free, fun x c z => fr c (nc x c z) (I.freeC x c z), fun p hp => ?_, fun b ho z => ?_, I.len⟩
 ·obtain ⟨a1, a2, a3⟩ := I.pin p hp
  exact ⟨a1, fr _ (np p hp) a2, a3⟩
 ·by_cases hb : b = ex
  ·subst hb
   rw [Zaq] at z
   cases z
   exact ⟨⟨o, g, hc⟩, ⟨o, g⟩, fun h1 h2 z1 z2 => let ⟨o1, g1, c1⟩ := z1; ⟨o1, z2 o1 g1, c1⟩⟩
  ·rw [Zak hb] at z
   exact (I.hok b ho z).stay (fun c v _ r => r) (fun c r => k c _ r) fun c xs r => k c _ r
theorem Inv.inM (I : Inv X pins σ H s) : Inv (Xm X ex) pins σ H s := by
 obtain ⟨o1, o2, o3, o4, o5, o6, o7, o8, o9, o10, o11, o12, o13, o14, o15, o16, o17, o18⟩ := I.ok
 exact ⟨⟨o1, o2, o3, o4, o5, o6, o7, o8, (fun z => by cases z), o10, o11, o12, o13, o14, o15, o16, o17, o18⟩, I.os, I.bare, I.base, I.loc, I.cell, I.free, I.freeC, I.pin, I.hok, I.len⟩
theorem Inv.outM (ok : X.Ok) (I : Inv (Xm X ex) pins σ H s) : Inv X pins σ H s :=
 ⟨ok, I.os, I.bare, I.base, I.loc, I.cell, I.free, I.freeC, I.pin, I.hok, I.len⟩
end
noncomputable def Zl0 (iE : Nat) (b : SF) (x : XTs) (su : SF) : SF := fun σ H => match b σ H with
 | some r => some r
 | none => (x σ H).bind fun p => if iE < σ.length then (su (σ.set iE (some (.ref p.2.length))) (p.2 ++ [.exc p.1])).bind fun r => match r.1 with
  | .nx => some (.nx, r.2.1.set iE none, r.2.2)
  | _ => none
 else none
theorem Zr2 {K : Frag} {H : Hp} {ι : List Addr} {σ : L2.St} {σd : SD} {iE : Nat} (s : SRep K H ι σ σd) (v : Option V) : SRep K H ι (σ.set iE v) (σd.set iE none) := by
 refine ⟨by simp [s.len], fun j d hd => ?_⟩
 by_cases hj : j = iE
 ·subst hj
  rw [List.getElem?_set] at hd
  split at hd
  ·split at hd <;> cases hd
  ·rename_i z; exact absurd rfl z
 ·rw [List.getElem?_set_ne (Ne.symm hj)] at hd ⊢
  exact s.var j d hd
noncomputable def Cat (K : Frag) (mg : Str -> Option Value) (xc : Str) (L : List Str) : Prop := ∃ cV, mg xc = some cV ∧ ∀ cn ∈ L, ∃ C, ExcT K mg cn C ∧ nsIn K mainGlobals cn = some (some (.ref C)) ∧ exmOne K (.ref C) cV = some true
section
variable {X : Cx} {L : List Str} {iE : Nat} {xc nm : Str} {b₀ : Stmt} {suite body : List Stmt} {b su : SF} {x : XTs} {np hp pos : Pos}
theorem Zwt {pins : List (Addr × Obj)} {σ : L2.St} {H : Hp} {ι : List Addr} {C : Addr} {cV : Value} {cn : Str} {Hd' H3 : HD} {σd σ2d : SD} {e : Value} {s' : Shared} {D : Ends} (hstk : X.stack = X.env :: X.outer) (hfr : X.env.frame = some X.env.locals) (hex0 : X.ex = []) (z : Rz X pins σ H ι C Hd' e s') (hns : nsIn X.K mainGlobals cn = some (some (.ref C)))
  (hgc : Gl X xc) (hmc : X.mg xc = some cV) (hex : exmOne X.K (.ref C) cV = some true) (hN : X.N.Nodup) (hi : X.N[iE]? = some nm) (hloc : X.env.scope.names.lookup nm = some .local) (hS : ∀ ex, Zna (Xm X ex) (b₀ :: suite) su) (ss : SRep X.K H ι σ σd)
  (e4 : su (σd.set iE (some (.ref Hd'.length))) (Hd' ++ [.exc cn]) = some (.nx, σ2d, H3)) (q : QS X.K H ι .nx (σ2d.set iE none) H3 D) (hdc : (xc == ("__debug__" : Str)) = false) :
  wpAny (model X.prog X.w) X.A (noteFrame e X.env) (fun _ s2 => wpAny (model X.prog X.w) X.A (setFlight e none) (fun _ s3 => wpAny (model X.prog X.w) X.A (handleBy e X.env [.ExceptHandler (some (.Name xc np)) (some nm) (b₀ :: suite) hp]) (SP X pins D) X.xe s3) X.xe s2) X.xe s' := by
 obtain ⟨s1, H1v, I1, hq⟩ := z
 obtain ⟨ex, Cv, H2v, rfl, ⟨rfl, ι2, l2, h2⟩, os, bare, un, hok, fl⟩ := hq
 obtain ⟨B, a0, fly, bo, bt⟩ := fl.fly
 rw [hstk] at fly
 have new : s1.heap.get? ex = none := fl.new
 have frA : X.A.frames = some (X.env :: X.outer) := by rw [← hstk]; exact I1.ok.frames
 refine wpAny_looks_onW frA hfr fly fun h4 held4 up4 => ?_
 refine wpAny_landsW held4 fun h5 fly5 up5 => ?_
 have ff : s'.heap.FunFrames B X.stack := by rw [hstk]; exact fly.2.2.1
 obtain ⟨un5, ok5⟩ := Zp6 un hok bo bt fly5.1 (up4.trans up5) ff
 have I5 : Inv X pins σ H2v { s' with heap := h5 } := I1.call' (s' := { s' with heap := h5 }) (ch := []) os un5 ok5 bare (fun b z => absurd z (by simp))
 have exH : H2v ex = none := by
  cases z : H2v ex with
  | none => rfl
  | some ho =>
   obtain ⟨o, _, g⟩ := bt ex ho z
   rw [fly.2.1] at g; cases g
 have ne : ex ≠ X.env.locals := fun z => by
  obtain ⟨m, ⟨o, _, _, g, _⟩, _⟩ := I1.loc
  rw [← z, new] at g; cases g
 have nf : ex ∉ X.fs := fun z => by
  obtain ⟨_, o, g, _⟩ := I1.funs.mem z
  rw [new] at g; cases g
 have nc : ∀ x c, X.env.cells.lookup x = some c -> c ≠ ex := fun x c z y => by
  obtain ⟨v, o, g, _⟩ := I1.cell x c z
  rw [y, new] at g; cases g
 have npn : ∀ p ∈ X.pn ++ pins, p.1 ≠ ex := fun p hp y => by
  have g := (I1.pin p hp).1
  rw [y, new] at g; cases g
 have new0 : X.s₀.heap.get? ex = none := by
  cases z : X.s₀.heap.get? ex with
  | none => rfl
  | some o =>
   obtain ⟨o1, g⟩ := I1.base.there ex o z (by rw [hex0]; intro y; cases y)
   rw [new] at g; cases g
 obtain ⟨ob, wb, gob, cob, dob, _⟩ := fly5.first
 have I5m : Inv (Xm X ex) pins σ H2v { s' with heap := h5 } := Inv.inM I5
 refine wpAny_handleBy_cons (codeAny_handlers_test (Zhg (X := Xm X ex) I5m hgc hmc ?_ hdc)) (by intro z; cases z)
 have LT : Looks (model X.prog X.w) h5 (typeOf (.ref ex)) (.ref C) := by rw [← cob]; exact (Looks.ld gob).andThen .now
 refine (exm_one (M := model X.prog X.w) I5.kIn LT hex).here ?_
 refine codeAny_handlers_suite_as ?_
 refine lands_againW fly5 fun h6 fly6 up6 => ?_
 obtain ⟨un6, ok6⟩ := Zp6 un hok bo bt fly6.1 ((up4.trans up5).trans up6) ff
 have I6 : Inv X pins σ H2v { s' with heap := h6 } := I1.call' (s' := { s' with heap := h6 }) (ch := []) os un6 ok6 bare (fun b z => absurd z (by simp))
 obtain ⟨oe, ws, goe, coe, doe, _⟩ := fly6.first
 have I6t : Inv X pins σ (upd H2v ex (.ext (Zf8 ex C))) { s' with heap := h6 } := Inv.told I6 exH goe coe new0 ne nc npn
 have I6m : Inv (Xm X ex) pins σ (upd H2v ex (.ext (Zf8 ex C))) { s' with heap := h6 } := Inv.inM I6t
 have lx : Le X.K H2v ι2 (upd H2v ex (.ext (Zf8 ex C))) (ι2 ++ [ex]) := Le.fresh1 exH _
 have hx : HRep X.K (upd H2v ex (.ext (Zf8 ex C))) (ι2 ++ [ex]) (Hd' ++ [.exc cn]) := h2.new exH ⟨C, hns, Zaq⟩
 refine Zjr (X := Xm X ex) I6m hN hi (.inl hloc) (v := .ref ex) rfl (fun s7 I7 => ?_) (.inr hloc)
 have sr : SRep X.K (upd H2v ex (.ext (Zf8 ex C))) (ι2 ++ [ex]) (σ.set iE (some (.ref ex))) (σd.set iE (some (.ref Hd'.length))) := by
  have s2 := (ss.mono l2).mono lx
  refine ⟨by simp [s2.len], fun j d hd => ?_⟩
  by_cases hj : j = iE
  ·subst hj
   by_cases hl : j < σd.length
   ·rw [List.getElem?_set_self hl] at hd
    cases hd
    have e0 := s2.len
    exact ⟨.ref ex, List.getElem?_set_self (by omega), Zan.mpr ⟨ex, rfl, by rw [← h2.len]; simp⟩⟩
   ·rw [List.getElem?_eq_none (by simp; omega)] at hd; cases hd
  ·rw [List.getElem?_set_ne (Ne.symm hj)] at hd ⊢
   exact s2.var j d hd
 have st := hS ex pins s7 (σ.set iE (some (.ref ex))) (upd H2v ex (.ext (Zf8 ex C))) { nx := fun σ8 H8 => D.nx (σ8.set iE none) H8, rt := fun _ _ => False } I7 ⟨ι2 ++ [ex], _, _, .nx, σ2d, H3, sr, hx, e4, fun σ8 H8 ι8 l8 h8 s8 => ?_⟩
 ·refine wpAny_mono st (fun f s8 z => ?_) fun _ _ z => z.elim
  cases f with
  | next =>
   obtain ⟨σ8, H8, I8, z⟩ := z
   exact Zwm (Inv.outM I1.ok I8) hN hi hloc fun s9 I9 => ⟨_, _, I9, z⟩
  | ret u => obtain ⟨v, σ8, H8, I8, r, z⟩ := z; exact z.elim
  | brk => obtain ⟨σ8, H8, I8, z⟩ := z; exact z.elim
  | cont => obtain ⟨σ8, H8, I8, z⟩ := z; exact z.elim
 ·exact q (σ8.set iE none) H8 ι8 ((l2.trans lx).trans l8) h8 (Zr2 s8 _)
theorem Zs6 (hb0 : Zna X.nox body b) (hx : PXs X L body x) (R : Cat X.K X.mg xc L) (hN : X.N.Nodup) (hi : X.N[iE]? = some nm) (hloc : X.env.scope.names.lookup nm = some .local) (hS : ∀ ex, Zna (Xm X ex) (b₀ :: suite) su)
  (hstk : X.stack = X.env :: X.outer := by rfl) (hfr : X.env.frame = some X.env.locals := by rfl) (hex0 : X.ex = [] := by rfl) (hgc : Gl X xc := by rfl) (hdc : (xc == ("__debug__" : Str)) = false := by decide) :
  PSf X (.Try body [.ExceptHandler (some (.Name xc np)) (some nm) (b₀ :: suite) hp] [] [] pos) (Zl0 iE b x su) := by
 intro pins s σ H D I z
 obtain ⟨ι, σd, Hd, fl, σd', Hd', ss, hr, e, qq⟩ := z
 unfold Zl0 at e
 split at e
 ·rename_i r e1
  cases e
  refine wpAny_Try_except (wpAny_mono (hb0 pins s σ H D (I.wish _) ⟨ι, σd, Hd, _, _, _, ss, hr, e1, qq⟩) (fun f s1 z => ?_) fun _ _ z => z.elim)
  have z : SP X pins D f s1 := z.unwish
  cases f with
  | next => exact wpAny_execs_nil z
  | brk => exact z
  | cont => exact z
  | ret u => exact z
 ·obtain ⟨⟨cn, H2⟩, e1, e0⟩ := Zo e
  clear e
  dsimp only at e0
  split at e0
  ·obtain ⟨⟨fl2, σ2, H3⟩, e2, e3⟩ := Zo e0
   clear e0
   obtain ⟨cV, hmc, RR⟩ := R
   cases fl2 with
   | nx =>
    cases e3
    refine wpAny_Try_except (wpAny_mono (hx pins s σ H I ι σd Hd cn H2 ss hr e1) (fun _ _ z => z.elim) fun ev s' z => ?_)
    obtain ⟨hL, C, T, z⟩ := z
    obtain ⟨C', T', hns, hex⟩ := RR cn hL
    have ec : C' = C := by
     have y := T'.bound
     rw [T.bound] at y
     cases y; rfl
    subst ec
    exact Zwt hstk hfr hex0 z hns hgc hmc hex hN hi hloc hS ss e2 qq hdc
   | bk => cases e3
   | ct => cases e3
   | rt d => cases e3
  ·cases e0
end
noncomputable def Zse (t : List (Str × Bool)) (fo : EF) : EF := fun σ H => (fo σ H).bind fun o => match o.1 with
 | .ref n => match o.2[n]? with
  | some (.exc c) => (t.lookup c).map fun b => (.bl b, o.2)
  | _ => none
 | _ => none
noncomputable def Is1 (K : Frag) (cV : Value) (t : List (Str × Bool)) : Prop := ∀ c b, t.lookup c = some b -> ∃ C, nsIn K mainGlobals c = some (some (.ref C)) ∧ kitOne K (.ref C) cV = some b
noncomputable def IsN (K : Frag) (cs : List Addr) (t : List (Str × Bool)) : Prop := ∀ c b, t.lookup c = some b -> ∃ C, nsIn K mainGlobals c = some (some (.ref C)) ∧ kitAny K (.ref C) (cs.map .ref) = some b
noncomputable def Zkh (K : Frag) (L : List Str) : Prop := ∀ cn ∈ L, ∃ C, nsIn K mainGlobals cn = some (some (.ref C)) ∧ ExcL K C
theorem Zpd {t : List (Str × Bool)} {c : Str} {b : Bool} (h : t.lookup c = some b) : c ∈ t.map (·.1) := by
 induction t with
 | nil => cases h
 | cons p r ih =>
  rw [List.lookup_cons] at h
  split at h
  ·rename_i z; simp only [List.map_cons, List.mem_cons]; exact .inl (by simpa using z)
  ·exact List.mem_cons_of_mem _ (ih h)
section
variable {X : Cx}
theorem Zrr {c : V} {cV : Value} (hu : ∀ u, Zbv c u → u = cV) : Zfl X (.builtin "isinstance") (fun xs H Q => ∃ a C b, xs = [.ref a, c] ∧ H a = some (.ext (Zf8 a C)) ∧ ExcL X.K C ∧ kitOne X.K (.ref C) cV = some b ∧ Q (.bl b) H) := by
 rintro pins s σ H xs us Q I r ⟨a, C, b, rfl, hH, L, e, q⟩
 obtain ⟨u1, u2, rfl, r1, r2⟩ := Zp5 r
 have e1 : u1 = .ref a := r1
 subst e1
 obtain rfl := hu u2 r2
 obtain ⟨⟨o, g, hc⟩, _, _⟩ := I.hok a _ hH
 exact kia_one (Znl (ox := o) (x := a) L) I.kIn ⟨g, hc⟩ e (by rintro z; cases z) fun tk => ⟨.bl b, H, I.tok tk, rfl, q⟩
theorem Zvy {cs : List Addr} : Zfl X (.builtin "isinstance") (fun xs H Q => ∃ a C b p, xs = [.ref a, .ref p] ∧ H a = some (.ext (Zf8 a C)) ∧ ExcL X.K C ∧ kitAny X.K (.ref C) (cs.map .ref) = some b ∧ H p = some (.tup (cs.map .ref)) ∧ Q (.bl b) H) := by
 rintro pins s σ H xs us Q I r ⟨a, C, b, p, rfl, hH, L, e, hp, q⟩
 obtain ⟨u1, u2, rfl, r1, r2⟩ := Zp5 r
 have e1 : u1 = .ref a := r1
 have e2 : u2 = .ref p := r2
 subst e1 e2
 obtain ⟨⟨o, g, hc⟩, _, _⟩ := I.hok a _ hH
 obtain ⟨_, its, rv, o2, g2, c1, ⟨n, d1⟩, _⟩ := I.hok p _ hp
 have ei := Zo2 rv
 subst ei
 obtain ⟨oc, od, odd, os⟩ := o2
 have c1 : oc = .type "tuple" := c1
 have d1 : odd = .seq (cs.map Value.ref).toArray n := d1
 subst c1 d1
 exact kia_tup (Znl (ox := o) (x := a) L) I.kIn ⟨g, hc⟩ g2 e (by rintro z; cases z) fun tk => ⟨.bl b, H, I.tok tk, rfl, q⟩
theorem Zo9 {t : List (Str × Bool)} {fo : EF} {σ : L2.St} {H : Hp} {Q : VK} {R : V -> Hp -> Prop} (z : rdE X.K (Zse t fo) σ H Q) (k : ∀ a c b, t.lookup c = some b -> ∀ H' ι' C, nsIn X.K mainGlobals c = some (some (.ref C)) -> H' a = some (.ext (Zf8 a C)) -> (∀ H'' , Le X.K H' ι' H'' ι' -> (∀ Hd, HRep X.K H' ι' Hd -> HRep X.K H'' ι' Hd) -> Q (.bl b) H'') -> R (.ref a) H') : rdE X.K fo σ H R := by
 obtain ⟨ι, σd, Hd, d, Hd', s, hr, e, q⟩ := z
 obtain ⟨⟨x, H1⟩, e1, e0⟩ := Zo e
 clear e
 refine ⟨ι, σd, Hd, x, H1, s, hr, e1, fun v H' ι' l h r => ?_⟩
 dsimp only at e0
 split at e0
 ·rename_i n
  split at e0
  ·rename_i c en
   obtain ⟨b, eb, e2⟩ := Zm e0
   cases e2
   obtain ⟨a, rfl, ha⟩ := Zan.mp r
   obtain ⟨a', ha', C, hns, hH⟩ := h.at en
   rw [ha] at ha'
   cases ha'
   exact k a c b eb H' ι' C hns hH fun H'' l2 h2 => q _ H'' ι' (l.trans l2) (h2 _ h) (by simp)
  ·cases e0
 ·cases e0
theorem Zq3 {L : List Str} {t : List (Str × Bool)} {fo : EF} {o : Expr} {xn : Str} {c : Addr} {p1 p3 p4 : Pos} (E : Zkh X.K L) (hl : t.map (·.1) = L) (ho : PEf X o fo) (hm : X.mg xn = some (.ref c)) (J : Is1 X.K (.ref c) t) (mI : X.mg "isinstance" = none) (gI : Gl X "isinstance" := by rfl) (gX : Gl X xn := by rfl) (hd : (xn == ("__debug__" : Str)) = false := by decide) (he : starEach [o, .Name xn p3] X.env = (false, eval o X.env) :: starEach [.Name xn p3] X.env := by exact Zav rfl) :
  PEf X (.Call (.Name "isinstance" p1) [o, .Name xn p3] [] p4) (Zse t fo) := by
 refine PEi (Zg5 (Zrr (c := .ref c) (cV := .ref c) fun u r => r) gI mI boot_isinstance (Zdx ho (Zdx (Zmo (v := .ref c) gX hm rfl hd) Zim rfl) he) (he := he)) fun σ H Q z => ?_
 refine Zo9 z fun a cn b eb H' ι' C hns hH q => ?_
 obtain ⟨C', h1, h3⟩ := J cn b eb
 rw [hns] at h1
 cases h1
 obtain ⟨C', h1, h2⟩ := E cn (hl ▸ Zpd eb)
 rw [hns] at h1
 cases h1
 exact ⟨a, C, b, rfl, hH, h2, h3, q H' Le.refl fun _ z => z⟩
theorem Zub {L : List Str} {t : List (Str × Bool)} {fo : EF} {o : Expr} {p1 p3 p4 : Pos} (E : Zkh X.K L) (hl : t.map (·.1) = L) (ho : PEf X o fo) (J : Is1 X.K (.type "ValueError") t) (mI : X.mg "isinstance" = none) (mV : X.mg "ValueError" = none) (gI : Gl X "isinstance" := by rfl) (gX : Gl X "ValueError" := by rfl) (he : starEach [o, .Name "ValueError" p3] X.env = (false, eval o X.env) :: starEach [.Name "ValueError" p3] X.env := by exact Zav rfl) :
  PEf X (.Call (.Name "isinstance" p1) [o, .Name "ValueError" p3] [] p4) (Zse t fo) := by
 refine PEi (Zg5 (Zrr (c := .ty "ValueError") (cV := .type "ValueError") fun u r => r) gI mI boot_isinstance (Zdx ho (Zdx (Zu9 (v := .ty "ValueError") gX mV (by decide +kernel) rfl) Zim rfl) he) (he := he)) fun σ H Q z => ?_
 refine Zo9 z fun a cn b eb H' ι' C hns hH q => ?_
 obtain ⟨C', h1, h3⟩ := J cn b eb
 rw [hns] at h1
 cases h1
 obtain ⟨C', h1, h2⟩ := E cn (hl ▸ Zpd eb)
 rw [hns] at h1
 cases h1
 exact ⟨a, C, b, rfl, hH, h2, h3, q H' Le.refl fun _ z => z⟩
theorem Zti {L : List Str} {t : List (Str × Bool)} {fo : EF} {o : Expr} {es : List Expr} {cs : List Addr} {x1 : Nat} {p1 p3 p4 : Pos} (E : Zkh X.K L) (hl : t.map (·.1) = L) (ho : PEf X o fo) (hcl : PA X es (Zs8 cs)) (J : IsN X.K cs t) (hz : cs.length ≤ 1000) (mI : X.mg "isinstance" = none) (gI : Gl X "isinstance" := by rfl) (he : starEach [o, .Tuple es x1 p3] X.env = (false, eval o X.env) :: starEach [.Tuple es x1 p3] X.env := by exact Zav rfl) :
  PEf X (.Call (.Name "isinstance" p1) [o, .Tuple es x1 p3] [] p4) (Zse t fo) := by
 refine PEi (Zg5 (Zvy (cs := cs)) gI mI boot_isinstance (Zdx ho (Zdx (Zuk hcl) Zim rfl) he) (he := he)) fun σ H Q z => ?_
 refine Zo9 z fun a cn b eb H' ι' C hns hH q => ?_
 obtain ⟨C', h1, h3⟩ := J cn b eb
 rw [hns] at h1
 cases h1
 obtain ⟨C', h1, h2⟩ := E cn (hl ▸ Zpd eb)
 rw [hns] at h1
 cases h1
 refine ⟨by rw [List.length_map, PySem.sizeLine_eq]; omega, fun p hp => ?_⟩
 exact ⟨a, C, b, p, rfl, by rw [Zak (Zam hH hp)]; exact hH, h2, h3, Zaq, q _ (Le.fresh hp _) fun _ z => z.tup hp _⟩
end
section
variable {K : Frag} {hp : Heap} {mg : Str -> Option Value} {xc cn : Str} {cV : Value} {C : Addr} {L : List Str} {t : List (Str × Bool)} {b : Bool} {cs : List Addr}
theorem Zxl (X : K.In hp) (G : hp.Ns mainGlobals mg) (a : nsIn K mainGlobals xc = some (some cV)) : mg xc = some cV ∧ ∀ cn ∈ ([] : List Str), ∃ C, ExcT K mg cn C ∧ nsIn K mainGlobals cn = some (some (.ref C)) ∧ exmOne K (.ref C) cV = some true := ⟨mg_of X G a, nofun⟩
theorem Zm5 (X : K.In hp) (G : hp.Ns mainGlobals mg) (a : nsIn K mainGlobals cn = some (some (.ref C))) (f : keepIn K (.ref C) = true) (p : excIn K C [.type "ValueError", .type "Exception", .type "BaseException", .type "object"] "ValueError.__new__" = true) (q : exmOne K (.ref C) cV = some true)
  (r : mg xc = some cV ∧ ∀ cn ∈ L, ∃ C, ExcT K mg cn C ∧ nsIn K mainGlobals cn = some (some (.ref C)) ∧ exmOne K (.ref C) cV = some true) : mg xc = some cV ∧ ∀ c ∈ cn :: L, ∃ C, ExcT K mg c C ∧ nsIn K mainGlobals c = some (some (.ref C)) ∧ exmOne K (.ref C) cV = some true := by
 refine ⟨r.1, fun c hc => ?_⟩
 rcases List.mem_cons.mp hc with rfl | hc
 ·exact ⟨C, ⟨mg_of X G a, f, _, _, _, _, p, PySem.F.excBase_ValueError⟩, a, q⟩
 ·exact r.2 c hc
theorem Cat.exc (h : Cat K mg xc L) (m : cn ∈ L) : ∃ C, ExcT K mg cn C := by
 obtain ⟨_, _, h⟩ := h
 obtain ⟨C, h, _⟩ := h cn m
 exact ⟨C, h⟩
theorem Zys : Zkh K [] := nofun
theorem Zqy {cd : ClassData} (a : nsIn K mainGlobals cn = some (some (.ref C))) (g : findIn K (.ref C) "__getattribute__" = some (some (.builtin "BaseException.__getattribute__"))) (h : findIn K (.ref C) "__getattr__" = some none) (i : findIn K (.ref C) "__class__" = some (some (.builtin "object.__class__"))) (j : specialIn K (.builtin "object.__class__") "__get__" = some (some (.builtin "getset_descriptor.__get__")))
  (l : takesIn K (.builtin "object.__class__") = some true) (m : mroIn K C (.type "object") = some true) (n : subIn K (.ref C) (.type "BaseException") = some true) (o : clsIn K C = some cd) (r : Zkh K L) : Zkh K (cn :: L) := by
 intro c hc
 rcases List.mem_cons.mp hc with rfl | hc
 ·exact ⟨C, a, ⟨g, h, i, j, l, m, n, by rw [o]; rfl⟩⟩
 ·exact r c hc
theorem Zmt : Is1 K cV [] := nofun
theorem Zeu (a : nsIn K mainGlobals cn = some (some (.ref C))) (s : kitOne K (.ref C) cV = some b) (r : Is1 K cV t) : Is1 K cV ((cn, b) :: t) := by
 intro c b' h
 rw [List.lookup_cons] at h
 split at h
 ·rename_i z
  cases h
  rw [show c = cn by simpa using z]
  exact ⟨C, a, s⟩
 ·exact r c b' h
theorem Zxa : IsN K cs [] := nofun
theorem Znx (a : nsIn K mainGlobals cn = some (some (.ref C))) (s : kitAny K (.ref C) (cs.map .ref) = some b) (r : IsN K cs t) : IsN K cs ((cn, b) :: t) := by
 intro c b' h
 rw [List.lookup_cons] at h
 split at h
 ·rename_i z
  cases h
  rw [show c = cn by simpa using z]
  exact ⟨C, a, s⟩
 ·exact r c b' h
end
end DL
namespace DL
open PySem L2
theorem Zeh {n : Nat} (h : n ≤ 1000000) : n ≤ sizeLine := by rw [PySem.sizeLine_eq]; omega
theorem Zf2 {xs : List D} {i : Int} {d : D} (h0 : 0 ≤ i) (h : xs[i.toNat]? = some d) : atI xs i = some d := by
 have : i = (i.toNat : Int) := by omega
 rw [this]; exact Zcc h
structure Ext (n : Nat) (H H' : HD) : Prop where
 feed : ∃ a b, H'[n]? = some (.lst [.int a, .int b])
 old : ∀ m o, m ≠ n -> H[m]? = some o -> H'[m]? = some o
 len : H.length ≤ H'.length
end DL
namespace LH
open PySem L2 DL
noncomputable def Zb7 : SF :=
 (Zaf (sIf (tOf (eOp gtD (eOp ixD (Zac 0) (eC (.int 0))) (eC (.int 0)))) (Zaf (Za0 2 (eOp Zgr (eOp ixD (Zac 0) (eC (.int 0))) (Zac 1)))
 (Zaf (Zod (eOp Zht (eOp ixD (Zac 0) (eC (.int 0))) (Zac 1)) (gSb (Zac 0) (eC (.int 0)) Zuw))
 (Zaf (Zbi (Zac 2))
 Zaj))) Zaj)
 (Zaf (Zod (eOp Zgr (eOp Zb4 (eOp Zgt (eOp ixD (Zac 0) (eC (.int 1))) (eC (.int 69621))) (eC (.int 12345))) (eC (.int 2147483647))) (gSb (Zac 0) (eC (.int 1)) Zuw))
 (Zaf (Zbi (eOp Zgr (eOp Zht (eOp ixD (Zac 0) (eC (.int 1))) (eC (.int 8191))) (Zac 1)))
 Zaj)))
noncomputable def Zah : FF := Za5 2 3 Zb7
theorem Zrd {n : Nat} {k : Int} {H : HD} (hf : ∃ a b, H[n]? = some (.lst [.int a, .int b])) (h0 : 0 < k) (h1 : k < 1073741824) :
  ∃ r H', 0 ≤ r ∧ r < k ∧ Zah [.ref n, .int k] H = some (.int r, H') ∧ Ext n H H' ∧ H'.length = H.length := by
 obtain ⟨a, b, e⟩ := hf
 have hl : n < H.length := (List.getElem?_eq_some_iff.mp e).1
 have i0 : ∀ x y : D, atI [x, y] 0 = some x := fun x y => Zcc (j := 0) rfl
 have i1 : ∀ x y : D, atI [x, y] 1 = some y := fun x y => Zcc (j := 1) rfl
 have j0 : ixN 2 0 = some 0 := rfl
 have j1 : ixN 2 1 = some 1 := rfl
 by_cases ha : 0 < a
 ·refine ⟨a % k, H.set n (.lst [.int (a / k), .int b]), Int.emod_nonneg _ (by omega), Int.emod_lt_of_pos _ h0, ?_, ⟨⟨a / k, b, by simp [hl]⟩, fun m o hm q => ?_, by simp⟩, by simp⟩
  ·have c1 : Zoz a k := h0
   have c2 : Zw3 a k := ⟨h0, h1⟩
   simp [Zah, Zb7, Za5, Zaf, sIf, tOf, eOp, ixD, Zac, eC, Zf7, e, gtD, iiD, CT, blD, Za0, Zgr, Zod, Zht, gSb, Zuw, Zbi, i0, ha, c1, c2, j0]
  ·rw [List.getElem?_set_ne (Ne.symm hm)]; exact q
 ·refine ⟨((b * 69621 + 12345) % 2147483647) / 8191 % k, H.set n (.lst [.int a, .int ((b * 69621 + 12345) % 2147483647)]), Int.emod_nonneg _ (by omega), Int.emod_lt_of_pos _ h0, ?_, ⟨⟨a, (b * 69621 + 12345) % 2147483647, by simp [hl]⟩, fun m o hm q => ?_, by simp⟩, by simp⟩
  ·have hs : ∀ o : DO, (H.set n o)[n]? = some o := fun o => by simp [hl]
   have c1 : ∀ z, Zoz z k := fun _ => h0
   have c2 : ∀ z, Zw3 z 8191 := fun _ => ⟨by decide, by decide⟩
   have c3 : ∀ z, Zoz z 2147483647 := fun _ => by show (0 : Int) < 2147483647; decide
   have c4 : ∀ z, Zqo z 69621 := fun _ => .inr ⟨by decide, by decide⟩
   simp [Zah, Zb7, Za5, Zaf, sIf, tOf, eOp, ixD, Zac, eC, Zf7, e, gtD, iiD, CT, blD, Za0, Zgr, Zod, Zht, gSb, Zuw, Zbi, i0, i1, ha, c1, c2, c3, c4, j1, Zaj, Zgt, Zb4, hs]
  ·rw [List.getElem?_set_ne (Ne.symm hm)]; exact q
noncomputable def Zcu : SF :=
 (Zaf (Zbi (eOp ixD (Zac 1) (Zai 2 Zah (Zaa (Zac 0) (Zaa (eCB Zb5 (Zaa (Zac 1) Zae)) Zae)))))
 Zaj)
noncomputable def Za7 : FF := Za5 2 2 Zcu
noncomputable def Zvb (n : Nat) (s : D) (xs : List D) (H : HD) : Prop := s = .tup xs ∨ ∃ m, s = .ref m ∧ m ≠ n ∧ H[m]? = some (.lst xs)
theorem Zvb.seq {n : Nat} {s : D} {xs : List D} {H : HD} (h : Zvb n s xs H) : Zf7 s H = some xs := by
 rcases h with rfl | ⟨m, rfl, _, e⟩
 ·rfl
 ·simp [Zf7, e]
theorem Zvb.ext {n : Nat} {s : D} {xs : List D} {H H' : HD} (h : Zvb n s xs H) (e : Ext n H H') : Zvb n s xs H' := by
 rcases h with rfl | ⟨m, rfl, hm, q⟩
 ·exact .inl rfl
 ·exact .inr ⟨m, rfl, hm, e.old m _ hm q⟩
theorem Zzx {n : Nat} {s : D} {xs : List D} {H : HD} (h : Zvb n s xs H) : Zb5 [s] H = some (.int xs.length, H) := by
 rcases h with rfl | ⟨m, rfl, _, e⟩
 ·simp [Zb5, Zf7]
 ·simp [Zb5, Zf7, e]
theorem Zvt {n : Nat} {s : D} {xs : List D} {H : HD} (hf : ∃ a b, H[n]? = some (.lst [.int a, .int b])) (hs : Zvb n s xs H) (h0 : 0 < xs.length) (h1 : xs.length < 1073741824) :
  ∃ x H', x ∈ xs ∧ Za7 [.ref n, s] H = some (x, H') ∧ Ext n H H' ∧ H'.length = H.length := by
 obtain ⟨r, H', r0, r1, e, x, hl⟩ := Zrd (k := xs.length) hf (by omega) (by omega)
 have hr : r.toNat < xs.length := by omega
 refine ⟨xs[r.toNat], H', List.getElem_mem hr, ?_, x, hl⟩
 have ha : atI xs r = some xs[r.toNat] := Zf2 r0 (by simp [hr])
 have hq := (hs.ext x).seq
 simp [Za7, Zcu, Za5, Zaf, Zbi, eOp, ixD, Zac, Zai, Zaa, Zae, eCB, Zzx hs, e, hq, ha]
structure ExtS (S : List Nat) (H H' : HD) : Prop where
 old : ∀ m o, m ∉ S -> H[m]? = some o -> H'[m]? = some o
 len : H.length ≤ H'.length
theorem ExtS.trans {S : List Nat} {H H1 H2 : HD} (a : ExtS S H H1) (b : ExtS S H1 H2) : ExtS S H H2 := ⟨fun m o h q => b.old m o h (a.old m o h q), Nat.le_trans a.len b.len⟩
theorem ExtS.refl {S : List Nat} {H : HD} : ExtS S H H := ⟨fun _ _ _ q => q, Nat.le_refl _⟩
theorem ExtS.set {S : List Nat} {H : HD} {p : Nat} {o : DO} (h : p ∈ S) : ExtS S H (H.set p o) := ⟨fun m u hm q => by rw [List.getElem?_set_ne (fun z => hm (by rw [← z]; exact h))]; exact q, by simp⟩
theorem Zix : ∀ (l : List Int) (j : Nat) (h : j < l.length), (l[j] :: l.eraseIdx j).Perm l
 | x :: xs, 0, h => List.Perm.refl _
 | x :: xs, j + 1, h => by
  rw [List.eraseIdx_cons_succ, List.getElem_cons_succ]
  exact (List.Perm.swap _ _ _).trans (List.Perm.cons x (Zix xs j (by simpa using h)))
theorem Zle {ns : List Int} {i : Int} (h : i ∈ Zd3 ns) : i ∈ ns := (Zdn ns).mem_iff.mp h
noncomputable def Zbo (l : Int) : Int := if l < 0 then -l else l
noncomputable def Up (m : Int) : Int -> List Int -> Prop
 | _, [] => True
 | last, l :: r => last < Zbo l ∧ Zbo l ≤ m ∧ Up m (Zbo l) r
theorem Ya4 {m : Int} : ∀ (ls : List Int) (last : Int), (ls.map Zbo).Pairwise (· < ·) -> (∀ x ∈ ls.map Zbo, last < x ∧ x ≤ m) -> Up m last ls
 | [], _, _, _ => trivial
 | l :: r, last, p, h => by
  rw [List.map_cons, List.pairwise_cons] at p
  have h1 := h (Zbo l) (by simp)
  exact ⟨h1.1, h1.2, Ya4 r (Zbo l) p.2 fun x hx => ⟨p.1 x hx, (h x (by rw [List.map_cons]; exact List.mem_cons_of_mem _ hx)).2⟩⟩
theorem Zt1 {ns : List Int} (h : ns.Nodup) : (Zd3 ns).Pairwise (· < ·) := by
 have h1 : (Zd3 ns).Pairwise (fun a b => decide (a ≤ b) = true) := List.pairwise_mergeSort (by intro a b c; simp; omega) (by intro a b; simp; omega) ns
 have h2 : (Zd3 ns).Nodup := (Zdn ns).nodup_iff.mpr h
 refine (List.Pairwise.and h1 h2).imp ?_
 rintro a b ⟨x, y⟩
 have := of_decide_eq_true x
 omega
theorem Zp1 (ns : List Int) : Zgf (ns.map .int) = some ns := by
 induction ns with
 | nil => rfl
 | cons n r ih => simp [Zgf, ih]
theorem Zbj {f g : SF} {σ σ1 : SD} {H H1 : HD} (h : f σ H = some (.nx, σ1, H1)) : Zaf f g σ H = g σ1 H1 := by
 unfold Zaf
 rw [h]
 rfl
theorem Zh0 {f g : SF} {σ σ1 : SD} {H H1 : HD} {d : D} (h : f σ H = some (.rt d, σ1, H1)) : Zaf f g σ H = some (.rt d, σ1, H1) := by
 unfold Zaf
 rw [h]
 rfl
theorem Zkl {i : Nat} {f : EF} {σ : SD} {H H1 : HD} {d : D} (h : f σ H = some (d, H1)) : Za0 i f σ H = some (.nx, σ.set i (some d), H1) := by
 unfold Za0
 rw [h]
 rfl
theorem Zl4 (lo : Int) (k : Nat) : Za2 lo k = ((List.range k).map fun j : Nat => lo + (j : Int)).map D.int := by
 unfold Za2
 rw [List.map_map]
 rfl
theorem Zmz (k : Nat) : ((List.range k).map fun j : Nat => (1 : Int) + (j : Int)).Nodup := by
 unfold List.Nodup
 rw [List.pairwise_map]
 refine (List.nodup_range (n := k)).imp ?_
 intro a b h
 omega
noncomputable def Ze2 (d : D) : Prop := d = .str "all" ∨ d = .str "some"
theorem Zgp {H : HD} : Zcj [] H := by intro x hx; simp at hx
theorem Zji (H : HD) (n : Nat) (i : Int) : toP H n (.int i) = some (.int i) := by cases n <;> rw [toP]
theorem Ziv (H : HD) (n : Nat) (b : Bool) : toP H n (.bl b) = some (.bool b) := by cases n <;> rw [toP]
theorem Zu7 (H : HD) (n : Nat) : toP H n .non = some .none := by cases n <;> rw [toP]
theorem Zo5 (H : HD) (i : Int) : dat (.int i) H = some (.int i) := by
 simp [dat, Zji, okP, PyData.canLay0, PyData.depth]
theorem Zzq (H : HD) (b : Bool) : dat (.bl b) H = some (.bool b) := by
 simp [dat, Ziv, okP, PyData.canLay0, PyData.depth]
theorem Zpz (i j : Int) (H : HD) : eqD (.int i) (.int j) H = some (.bl (i == j), H) := by
 simp [eqD, Zoj, Zo5, PyData.eqv]
theorem Zz4 (i j : Int) (H : HD) : neD (.int i) (.int j) H = some (.bl (!(i == j)), H) := by
 simp [neD, Zoj, Zo5, PyData.eqv]
noncomputable def RowIn (m : Int) (d : D) : Prop := ∃ ls : List Int, d = .tup (ls.map .int) ∧ (∀ l ∈ ls, l ≠ 0 ∧ -10 ≤ l ∧ l ≤ 10) ∧ ls.length ≤ 9 ∧ Up m 0 ls
structure Sh (x : PyData) (w dp : Nat) : Prop where
 lay : x.canLay0 = true
 sh : x.showable = true
 dep : x.depth ≤ dp
 lv : x.leavesShort 40 = true
 wt : x.weight ≤ w
theorem Sh.can {x : PyData} {w dp : Nat} (h : Sh x w dp) (hw : w ≤ 100000) (hd : dp ≤ 30) : Zjz x = true := by
 have sz : sizeLine = 16777216 := PySem.sizeLine_eq
 have l := PyData.shown_le 40 (by omega) x h.lv
 have h1 : x.shown.length ≤ sizeLine := by
  have := h.wt
  rw [sz]; omega
 have h2 : x.depth ≤ 30 := Nat.le_trans h.dep hd
 simp [Zjz, h.lay, h.sh, h1, h2]
noncomputable def Za3 (d : D) (w dp : Nat) : Prop := ∃ x, (∀ H n, toP H n d = some x) ∧ Sh x w dp
theorem Zyo : ∀ k : Fin 61, (PyData.shown (.int ((k.val : Int) - 30))).length ≤ 40 ∧ ((PyData.int ((k.val : Int) - 30)).showable = true) ∧ (PyData.int ((k.val : Int) - 30)).weight ≤ 40 := by decide
theorem Sh.int {i : Int} (h0 : -30 ≤ i) (h1 : i ≤ 30) : Sh (.int i) 40 0 := by
 have h := Zyo ⟨(i + 30).toNat, by omega⟩
 have e : (((i + 30).toNat : Nat) : Int) - 30 = i := by omega
 simp only [e] at h
 exact ⟨rfl, h.2.1, Nat.le_refl _, by simpa [PyData.leavesShort] using h.1, h.2.2⟩
theorem Za3.int {i : Int} (h0 : -30 ≤ i) (h1 : i ≤ 30) : Za3 (.int i) 40 0 := ⟨.int i, fun H n => Zji H n i, Sh.int h0 h1⟩
theorem Za3.bl {b : Bool} : Za3 (.bl b) 40 0 := ⟨.bool b, fun H n => Ziv H n b, rfl, rfl, Nat.le_refl _, rfl, Nat.zero_le _⟩
theorem Za3.non : Za3 .non 40 0 := ⟨.none, fun H n => Zu7 H n, rfl, rfl, Nat.le_refl _, rfl, Nat.zero_le _⟩
theorem Zhc (H : HD) (n : Nat) (x : Str) : toP H n (.str x) = some (.str x) := by cases n <;> rw [toP]
theorem Za3.str {x : Str} (h : PyData.strOk x = true) (h2 : (x.cps.toList.all fun c => decide (c < 16 ^ 8)) = true) (h3 : x.cps.size ≤ 40) : Za3 (.str x) 40 0 :=
 ⟨.str x, fun H n => Zhc H n x, h, rfl, Nat.le_refl _, h2, h3⟩
theorem Zca {x : Str} (h : (x.cps.toList.all fun c => decide (c < 0x110000)) = true) : PyData.strOk x = true := by
 unfold PyData.strOk
 rw [← Array.all_toList]
 exact h
theorem Za3.kind {d : D} (h : Ze2 d) : Za3 d 40 0 := by
 rcases h with rfl | rfl
 ·exact Za3.str (Zca (by decide)) (by decide) (by decide)
 ·exact Za3.str (Zca (by decide)) (by decide) (by decide)
theorem Zqp {H : HD} {n w dp : Nat} : ∀ xs : List D, (∀ d ∈ xs, ∃ x, toP H n d = some x ∧ Sh x w dp) -> ∃ ps, Ze9 H n xs = some ps ∧ PyData.canLayAll0 ps = true ∧ PyData.showableAll ps = true ∧ PyData.depthAll ps ≤ dp ∧ PyData.leavesShortAll 40 ps = true ∧ PyData.weightAll ps ≤ xs.length * (w + 1) ∧ ps.length = xs.length
 | [], _ => ⟨[], by rw [Ze9], rfl, rfl, Nat.zero_le _, rfl, Nat.zero_le _, rfl⟩
 | d :: xs, h => by
  obtain ⟨x, e1, s⟩ := h d (by simp)
  obtain ⟨ps, e2, a1, a2, a3, a4, a5, a6⟩ := Zqp (H := H) (n := n) (w := w) (dp := dp) xs fun z hz => h z (by simp [hz])
  refine ⟨x :: ps, ?_, ?_, ?_, ?_, ?_, ?_, by simp [a6]⟩
  ·rw [Ze9, e1, e2]; rfl
  ·simp [PyData.canLayAll0, s.lay, a1]
  ·simp [PyData.showableAll, s.sh, a2]
  ·simp only [PyData.depthAll]; exact Nat.max_le.mpr ⟨s.dep, a3⟩
  ·simp [PyData.leavesShortAll, s.lv, a4]
  ·simp only [PyData.weightAll, List.length_cons, Nat.succ_mul]
   have := s.wt
   omega
theorem Za3.tup {xs : List D} {w dp : Nat} (h : ∀ d ∈ xs, Za3 d w dp) : Za3 (.tup xs) (xs.length * (w + 1)) (dp + 1) := by
 have all : ∀ H n, ∃ ps, Ze9 H n xs = some ps ∧ PyData.canLayAll0 ps = true ∧ PyData.showableAll ps = true ∧ PyData.depthAll ps ≤ dp ∧ PyData.leavesShortAll 40 ps = true ∧ PyData.weightAll ps ≤ xs.length * (w + 1) ∧ ps.length = xs.length := fun H n => Zqp xs fun d hd => by
  obtain ⟨x, e, s⟩ := h d hd
  exact ⟨x, e H n, s⟩
 have same : ∀ (xs : List D), (∀ d ∈ xs, Za3 d w dp) -> ∀ H n, Ze9 H n xs = Ze9 [] 0 xs := by
  intro xs
  induction xs with
  | nil => intro _ H n; rw [Ze9, Ze9]
  | cons d r ih =>
   intro h H n
   obtain ⟨x, e, _⟩ := h d (by simp)
   rw [Ze9, Ze9, e, e, ih (fun z hz => h z (by simp [hz])) H n]
 obtain ⟨ps, e, a1, a2, a3, a4, a5, _⟩ := all [] 0
 refine ⟨.tuple ps, fun H n => ?_, ⟨a1, a2, Nat.succ_le_succ a3, a4, a5⟩⟩
 have q : Ze9 H n xs = some ps := (same xs h H n).trans e
 cases n <;> rw [toP, q] <;> rfl
theorem Za3.le {d : D} {w dp w' dp' : Nat} (h : Za3 d w dp) (hw : w ≤ w') (hd : dp ≤ dp') : Za3 d w' dp' := by
 obtain ⟨x, e, s⟩ := h
 exact ⟨x, e, s.lay, s.sh, Nat.le_trans s.dep hd, s.lv, Nat.le_trans s.wt hw⟩
theorem Za3.rep {d : D} {w dp : Nat} (h : Za3 d w dp) (hw : w ≤ 100000) (hd : dp ≤ 30) : ∃ t : Str, ∀ H, Zd4 [d] H = some (.str t, H) := by
 obtain ⟨x, e, s⟩ := h
 refine ⟨x.shown, fun H => ?_⟩
 unfold Zd4
 simp only [e, Zb, if_pos (s.can hw hd)]
theorem Ya8 (xs : List D) (k : Nat) : Zkf xs (some (k : Int)) none = xs.drop k := by
 unfold Zkf
 have h1 : HT.sIx xs.length 0 (some (k : Int)) = min k xs.length := by
  show (if (k : Int) < 0 then ((k : Int) + (xs.length : Int)).toNat else min (k : Int).toNat xs.length) = min k xs.length
  rw [if_neg (by omega), Int.toNat_natCast]
 have h2 : HT.sIx xs.length xs.length none = xs.length := rfl
 rw [h1, h2]
 by_cases h : k ≤ xs.length
 ·rw [Nat.min_eq_left h]
  exact List.take_of_length_le (by simp)
 ·rw [Nat.min_eq_right (by omega), List.drop_of_length_le (Nat.le_refl _), List.drop_of_length_le (by omega)]
  simp
theorem Zu2 (xs : List D) (k : Nat) : Zkf xs none (some (k : Int)) = xs.take k := by
 unfold Zkf
 have h1 : HT.sIx xs.length 0 none = 0 := rfl
 have h2 : HT.sIx xs.length xs.length (some (k : Int)) = min k xs.length := by
  show (if (k : Int) < 0 then ((k : Int) + (xs.length : Int)).toNat else min (k : Int).toNat xs.length) = min k xs.length
  rw [if_neg (by omega), Int.toNat_natCast]
 rw [h1, h2]
 simp
theorem ac {f : EF} {g : AF} {σ : SD} {H H1 H2 : HD} {d : D} {ds : List D} (h1 : f σ H = some (d, H1)) (h2 : g σ H1 = some (ds, H2)) : Zaa f g σ H = some (d :: ds, H2) := by
 unfold Zaa; rw [h1]; simp only [Zb]; rw [h2]; rfl
theorem an {σ : SD} {H : HD} : Zae σ H = some ([], H) := rfl
theorem cb {g : FF} {f : AF} {σ : SD} {H H1 : HD} {ds : List D} {r : Option (D × HD)} (h1 : f σ H = some (ds, H1)) (h2 : g ds H1 = r) : eCB g f σ H = r := by
 unfold eCB; rw [h1]; exact h2
theorem tu {n : Nat} {xs : List D} {H : HD} (h : H[n]? = some (.lst xs)) : Zdq [.ref n] H = some (.tup xs, H) := by
 simp [Zdq, Zf7, h]
theorem tp {f : AF} {σ : SD} {H H1 : HD} {ds : List D} (h1 : f σ H = some (ds, H1)) (h2 : ds.length ≤ 1000000) : Zfk f σ H = some (.tup ds, H1) := by
 unfold Zfk; rw [h1]; exact if_pos (Zeh h2)
theorem ls {f : AF} {σ : SD} {H H1 : HD} {ds : List D} (h1 : f σ H = some (ds, H1)) (h2 : ds.length ≤ 1000000) : Zds f σ H = some (.ref H1.length, H1 ++ [.lst ds]) := by
 unfold Zds; rw [h1]; exact if_pos (Zeh h2)
theorem ca {n : Nat} {F : FF} {f : AF} {σ : SD} {H H1 : HD} {ds : List D} {r : Option (D × HD)} (h1 : f σ H = some (ds, H1)) (hl : ds.length = n) (h2 : F ds H1 = r) : Zai n F f σ H = r := by
 unfold Zai; rw [h1]; simp only [Zb]; rw [if_pos hl]; exact h2
theorem rt {f : EF} {σ : SD} {H H1 : HD} {d : D} (h : f σ H = some (d, H1)) : Zbi f σ H = some (.rt d, σ, H1) := by
 unfold Zbi; rw [h]; rfl
theorem op {g : F2} {fa fb : EF} {σ : SD} {H H1 H2 : HD} {d1 d2 : D} {r : Option (D × HD)} (h1 : fa σ H = some (d1, H1)) (h2 : fb σ H1 = some (d2, H2)) (h3 : g d1 d2 H2 = r) : eOp g fa fb σ H = r := by
 unfold eOp; rw [h1]; simp only [Zb]; rw [h2]; exact h3
theorem Zk9 {t : TF} {f g : SF} {σ : SD} {H H1 : HD} {b : Bool} (h : t σ H = some (b, H1)) : sIf t f g σ H = if b = true then f σ H1 else g σ H1 := by
 unfold sIf; rw [h]; rfl
theorem tof {f : EF} {σ : SD} {H H1 : HD} {b : Bool} (h : f σ H = some (.bl b, H1)) : tOf f σ H = some (b, H1) := by
 unfold tOf; rw [h]; rfl
theorem lenT (xs : List D) (H : HD) : Zb5 [.tup xs] H = some (.int xs.length, H) := by simp [Zb5, Zf7]
theorem lenB (bs : List Bool) (H : HD) : Zb5 [.tup (bs.map .bl)] H = some (.int bs.length, H) := by simp [Zb5, Zf7]
theorem ixT {xs : List D} {i : Int} {d : D} {H : HD} (h : atI xs i = some d) : ixD (.tup xs) (.int i) H = some (d, H) := by simp [ixD, Zf7, h]
theorem skip {t : TF} {f g : SF} {σ : SD} {H H1 : HD} (h : t σ H = some (false, H1)) : Zaf (sIf t f Zaj) g σ H = g σ H1 := by
 refine Zbj ?_
 rw [Zk9 h]
 rfl
theorem hit {t : TF} {f f2 g : SF} {σ σ1 : SD} {H H1 H2 : HD} {d : D} (h : t σ H = some (true, H1)) (h2 : f σ H1 = some (.rt d, σ1, H2)) : Zaf (sIf t (Zaf f Zaj) f2) g σ H = some (.rt d, σ1, H2) := by
 refine Zh0 ?_
 rw [Zk9 h]
 exact Zh0 h2
theorem vr {i : Nat} {σ : SD} {H : HD} {d : D} (h : σ[i]? = some (some d)) : Zac i σ H = some (d, H) := by simp [Zac, h]
theorem sl {fe : EF} {fl fh : OF} {σ : SD} {H H1 H2 H3 : HD} {d : D} {l h : Option Int} {r : Option (D × HD)} (h1 : fe σ H = some (d, H1)) (h2 : fl σ H1 = some (l, H2)) (h3 : fh σ H2 = some (h, H3)) (h4 : slD d l h H3 = r) : eSl fe fl fh σ H = r := by
 unfold eSl; rw [h1]; simp only [Zb]; rw [h2]; simp only [Zb]; rw [h3]; exact h4
theorem os {f : EF} {σ : SD} {H H1 : HD} {i : Int} (h : f σ H = some (.int i, H1)) : Zgu f σ H = some (some i, H1) := by
 unfold Zgu; rw [h]; rfl
theorem on {σ : SD} {H : HD} : Zhp σ H = some (none, H) := rfl
theorem slhi {xs : List D} {k : Nat} {H : HD} : slD (.tup xs) none (some (k : Int)) H = some (.tup (xs.take k), H) := by
 rw [← Zu2]; rfl
theorem sllo {xs : List D} {k : Nat} {H : HD} : slD (.tup xs) (some (k : Int)) none H = some (.tup (xs.drop k), H) := by
 rw [← Ya8]; rfl
theorem adT {xs ys : List D} {H : HD} (h : xs.length + ys.length ≤ 1000000) : Zb4 (.tup xs) (.tup ys) H = some (.tup (xs ++ ys), H) :=
 if_pos (Zeh (by rw [List.length_append]; exact h))
theorem adI (i j : Int) (H : HD) : Zb4 (.int i) (.int j) H = some (.int (i + j), H) := rfl
theorem suI (i j : Int) (H : HD) : Zmd (.int i) (.int j) H = some (.int (i - j), H) := by simp [Zmd, iiD, CT]
theorem muT {xs : List D} {k : Int} {H : HD} (h1 : -1000 ≤ k) (h2 : k ≤ 1000) (h3 : xs.length ≤ 1000) : Zgt (.tup xs) (.int k) H = some (.tup (List.replicate k.toNat xs).flatten, H) := by
 have b : xs.length * k.toNat ≤ 1000 * 1000 := Nat.mul_le_mul h3 (by omega)
 have sz : sizeLine = 16777216 := PySem.sizeLine_eq
 have c : -(2 ^ 63) ≤ k ∧ k < 2 ^ 63 ∧ xs.length * k.toNat ≤ sizeLine := ⟨by omega, by omega, by omega⟩
 have l : (List.replicate k.toNat xs).flatten.length ≤ sizeLine := by
  rw [List.length_flatten, List.map_replicate, List.sum_replicate_nat, Nat.mul_comm]; omega
 show (if -(2 ^ 63) ≤ k ∧ k < 2 ^ 63 ∧ xs.length * k.toNat ≤ sizeLine then mkT (List.replicate k.toNat xs).flatten H else none) = _
 rw [if_pos c]
 exact if_pos l
theorem ExtS.app {S : List Nat} {H : HD} (L : HD) : ExtS S H (H ++ L) := ⟨fun m o _ q => by
 have : m < H.length := (List.getElem?_eq_some_iff.mp q).1
 rw [List.getElem?_append_left this]; exact q, by simp⟩
theorem ExtS.weak {p : Nat} {H H1 H' : HD} (e0 : ExtS [] H H1) (e : ExtS [p] H1 H') (hp : H.length ≤ p) : ExtS [] H H' := ⟨fun m o _ q => by
 have : m < H.length := (List.getElem?_eq_some_iff.mp q).1
 exact e.old m o (by simp; omega) (e0.old m o (by simp) q), Nat.le_trans e0.len e.len⟩
noncomputable def Za1 (ls : List Int) : D := .tup (ls.map .int)
noncomputable def Zb9 : SF :=
 (Zaf (Za0 2 (eC (.int 0)))
 (Zaf (sIf (tOf (eOp ltD (Zac 1) (eCB Zb5 (Zaa (Zac 0) Zae)))) (Zaf (Za0 2 (eOp ixD (Zac 0) (Zac 1)))
 Zaj) Zaj)
 (Zaf (Za0 3 (eC (.int 0)))
 (Zaf (sIf (tOf (eOp geD (Zac 2) (eOp Zk5 (eC (.int 10)) (eC (.int 18))))) (Zaf (Za0 3 (eOp Zmd (Zac 2) (eOp Zk5 (eC (.int 10)) (eC (.int 18)))))
 Zaj) Zaj)
 (Zaf (Za0 4 (eOp Zgr (eOp Zb4 (eOp Zb4 (eOp Zgt (eOp Zgr (Zac 2) (eC (.int 2147483647))) (eC (.int 48271))) (eOp Zgt (eC (.int 7919)) (Zac 1))) (eC (.int 5))) (eC (.int 2147483629))))
 (Zaf (Zbi (Zds (Zaa (Zac 3) (Zaa (eOp Zb4 (eOp Zgr (eOp Zk5 (Zac 4) (eC (.int 5))) (eC (.int 2147483587))) (eC (.int 1))) Zae))))
 Zaj))))))
noncomputable def Zcb : FF := Za5 2 5 Zb9
theorem Zvw (ns : List Int) (at_ : Int) (h0 : 0 ≤ at_) (h1 : at_ < 1000) (H : HD) : ∃ a b, Zcb [.fl (ns.map .int), .int at_] H = some (.ref H.length, H ++ [.lst [.int a, .int b]]) := by
 have z2 : (2 : Nat) ≤ sizeLine := Zeh (by omega)
 have c0 : Zx5 10 18 := ⟨by decide, by decide, by decide⟩
 have c1 : ∀ z k, 0 < k -> Zoz z k := fun _ _ h => h
 have c2 : ∀ z, Zqo z 48271 := fun _ => .inr ⟨by decide, by decide⟩
 have c3 : ∀ z, Zqo 7919 z := fun _ => .inl ⟨by decide, by decide⟩
 have p18 : ((10 : Int) ^ (18 : Int).toNat) = 1000000000000000000 := by decide
 have run : ∀ v : Int, ∃ a b, (Zaf (Za0 3 (eC (.int 0)))
 (Zaf (sIf (tOf (eOp geD (Zac 2) (eOp Zk5 (eC (.int 10)) (eC (.int 18))))) (Zaf (Za0 3 (eOp Zmd (Zac 2) (eOp Zk5 (eC (.int 10)) (eC (.int 18)))))
 Zaj) Zaj)
 (Zaf (Za0 4 (eOp Zgr (eOp Zb4 (eOp Zb4 (eOp Zgt (eOp Zgr (Zac 2) (eC (.int 2147483647))) (eC (.int 48271))) (eOp Zgt (eC (.int 7919)) (Zac 1))) (eC (.int 5))) (eC (.int 2147483629))))
 (Zaf (Zbi (Zds (Zaa (Zac 3) (Zaa (eOp Zb4 (eOp Zgr (eOp Zk5 (Zac 4) (eC (.int 5))) (eC (.int 2147483587))) (eC (.int 1))) Zae))))
 Zaj)))) [some (.fl (ns.map .int)), some (.int at_), some (.int v), none, none] H = some (.rt (.ref H.length), [some (.fl (ns.map .int)), some (.int at_), some (.int v), some (.int a), some (.int b)], H ++ [.lst [.int a, .int (b ^ 5 % 2147483587 + 1)]]) := by
  intro v
  let a : Int := if (1000000000000000000 : Int) ≤ v then v - 1000000000000000000 else 0
  let b : Int := (v % 2147483647 * 48271 + 7919 * at_ + 5) % 2147483629
  refine ⟨a, b, ?_⟩
  have hb : 0 ≤ b ∧ b < 2147483629 := ⟨Int.emod_nonneg _ (by decide), Int.emod_lt_of_pos _ (by decide)⟩
  have c4 : Zx5 b 5 := ⟨by decide, by decide, by omega⟩
  have s1 : Za0 3 (eC (.int 0)) [some (.fl (ns.map .int)), some (.int at_), some (.int v), none, none] H = some (.nx, [some (.fl (ns.map .int)), some (.int at_), some (.int v), some (.int 0), none], H) := rfl
  have s2 : sIf (tOf (eOp geD (Zac 2) (eOp Zk5 (eC (.int 10)) (eC (.int 18))))) (Zaf (Za0 3 (eOp Zmd (Zac 2) (eOp Zk5 (eC (.int 10)) (eC (.int 18))))) Zaj) Zaj [some (.fl (ns.map .int)), some (.int at_), some (.int v), some (.int 0), none] H = some (.nx, [some (.fl (ns.map .int)), some (.int at_), some (.int v), some (.int a), none], H) := by
   by_cases hv : (1000000000000000000 : Int) ≤ v
   ·simp [sIf, tOf, eOp, geD, Zac, Zk5, eC, iiD, CT, c0, blD, hv, Zaf, Za0, Zmd, Zaj, a]
   ·simp [sIf, tOf, eOp, geD, Zac, Zk5, eC, iiD, CT, c0, blD, hv, Zaj, a]
  have s3 : Za0 4 (eOp Zgr (eOp Zb4 (eOp Zb4 (eOp Zgt (eOp Zgr (Zac 2) (eC (.int 2147483647))) (eC (.int 48271))) (eOp Zgt (eC (.int 7919)) (Zac 1))) (eC (.int 5))) (eC (.int 2147483629))) [some (.fl (ns.map .int)), some (.int at_), some (.int v), some (.int a), none] H = some (.nx, [some (.fl (ns.map .int)), some (.int at_), some (.int v), some (.int a), some (.int b)], H) := by
   have d1 : Zoz v 2147483647 := c1 _ _ (by decide)
   have d2 : Zoz (v % 2147483647 * 48271 + 7919 * at_ + 5) 2147483629 := c1 _ _ (by decide)
   simp [Za0, eOp, Zgr, Zac, eC, iiD, d1, Zgt, c2, c3, Zb4, d2, b]
  rw [Zbj s1, Zbj s2, Zbj s3]
  have d3 : Zoz (b ^ 5) 2147483587 := c1 _ _ (by decide)
  refine Zh0 ?_
  simp [Zbi, Zds, Zaa, Zae, Zac, eOp, Zk5, eC, iiD, c4, Zgr, d3, Zb4, mkL, z2]
 show ∃ a b, ((Zb9 [some (.fl (ns.map .int)), some (.int at_), none, none, none] H).bind _) = _
 unfold Zb9
 have s1 : Za0 2 (eC (.int 0)) [some (.fl (ns.map .int)), some (.int at_), none, none, none] H = some (.nx, [some (.fl (ns.map .int)), some (.int at_), some (.int 0), none, none], H) := rfl
 have s2 : ∃ v : Int, sIf (tOf (eOp ltD (Zac 1) (eCB Zb5 (Zaa (Zac 0) Zae)))) (Zaf (Za0 2 (eOp ixD (Zac 0) (Zac 1))) Zaj) Zaj [some (.fl (ns.map .int)), some (.int at_), some (.int 0), none, none] H = some (.nx, [some (.fl (ns.map .int)), some (.int at_), some (.int v), none, none], H) := by
  by_cases hl : at_ < (ns.length : Int)
  ·have hn : at_.toNat < ns.length := by omega
   refine ⟨ns[at_.toNat], ?_⟩
   have e : atI (ns.map D.int) at_ = some (D.int ns[at_.toNat]) := Zf2 h0 (by rw [List.getElem?_map, List.getElem?_eq_getElem hn]; rfl)
   simp [sIf, tOf, eOp, ltD, Zac, eCB, Zaa, Zae, Zb5, Zf7, iiD, CT, blD, hl, Zaf, Za0, ixD, e, Zaj]
  ·refine ⟨0, ?_⟩
   simp [sIf, tOf, eOp, ltD, Zac, eCB, Zaa, Zae, Zb5, Zf7, iiD, CT, blD, hl, Zaj]
 obtain ⟨v, s2⟩ := s2
 obtain ⟨a, b, e⟩ := run v
 refine ⟨a, b ^ 5 % 2147483587 + 1, ?_⟩
 rw [Zbj s1, Zbj s2, e]
 rfl
theorem orF {t u : TF} {σ : SD} {H H1 : HD} (h : t σ H = some (false, H1)) : Zu1 t u σ H = u σ H1 := by unfold Zu1; rw [h]; rfl
theorem orT {t u : TF} {σ : SD} {H H1 : HD} (h : t σ H = some (true, H1)) : Zu1 t u σ H = some (true, H1) := by unfold Zu1; rw [h]; rfl
theorem anF {t u : TF} {σ : SD} {H H1 : HD} (h : t σ H = some (false, H1)) : tAn t u σ H = some (false, H1) := by unfold tAn; rw [h]; rfl
theorem anT {t u : TF} {σ : SD} {H H1 : HD} (h : t σ H = some (true, H1)) : tAn t u σ H = u σ H1 := by unfold tAn; rw [h]; rfl
theorem Zip (H : HD) (n : Nat) : ∀ bs : List Bool, Ze9 H n (bs.map .bl) = some (bs.map .bool)
 | [] => by rw [List.map_nil, Ze9]; rfl
 | b :: bs => by rw [List.map_cons, Ze9, Ziv, Zip H n bs]; rfl
theorem Zkj : ∀ bs : List Bool, PyData.canLayAll0 (bs.map .bool) = true ∧ PyData.depthAll (bs.map .bool) = 0
 | [] => ⟨rfl, rfl⟩
 | b :: bs => by
  obtain ⟨h1, h2⟩ := Zkj bs
  refine ⟨?_, ?_⟩
  ·simp [PyData.canLayAll0, PyData.canLay0, h1]
  ·simp [PyData.depthAll, PyData.depth, h2]
theorem Zur : ∀ bs : List Bool, (!(bs.map PyData.bool).any fun z => PyData.eqv z (.bool false)) = bs.all id
 | [] => rfl
 | b :: r => by
  have ih := Zur r
  rw [List.map_cons, List.any_cons, Bool.not_or, ih, List.all_cons]
  cases b <;> simp [PyData.eqv]
theorem Zs9 {H : HD} {p : Nat} {bs : List Bool} (h : H[p]? = some (.lst (bs.map .bl))) : niD (.bl false) (.ref p) H = some (.bl (bs.all id), H) := by
 have e1 : dat (.bl false) H = some (.bool false) := Zzq H false
 have e2 : dat (.ref p) H = some (.list (bs.map .bool)) := by
  unfold dat
  rw [toP]
  simp only [h, Zip, Option.map_some, Zb]
  rw [if_pos]
  obtain ⟨h1, h2⟩ := Zkj bs
  simp [okP, PyData.canLay0, PyData.depth, h1, h2]
 unfold niD
 rw [e1]
 simp only [Zb]
 rw [e2]
 simp only [Zb, Zen, Option.map_some]
 rw [Zur bs]
end LH
namespace WP
open PySem L2 DL LH
noncomputable def wE (r : Option (D × HD)) (Q : D -> HD -> Prop) : Prop := ∃ d H, r = some (d, H) ∧ Q d H
noncomputable def wT (r : Option (Bool × HD)) (Q : Bool -> HD -> Prop) : Prop := ∃ d H, r = some (d, H) ∧ Q d H
noncomputable def wA (r : Option (List D × HD)) (Q : List D -> HD -> Prop) : Prop := ∃ d H, r = some (d, H) ∧ Q d H
noncomputable def wO (r : Option (Option Int × HD)) (Q : Option Int -> HD -> Prop) : Prop := ∃ d H, r = some (d, H) ∧ Q d H
noncomputable def wI (r : Option ((List D × Zgy) × HD)) (Q : List D -> Zgy -> HD -> Prop) : Prop := ∃ d o H, r = some ((d, o), H) ∧ Q d o H
noncomputable def wG (r : Option (SD × HD)) (Q : SD -> HD -> Prop) : Prop := ∃ d H, r = some (d, H) ∧ Q d H
noncomputable def wH (r : Option HD) (Q : HD -> Prop) : Prop := ∃ H, r = some H ∧ Q H
noncomputable def wS (r : Option (FD × SD × HD)) (Q : FD -> SD -> HD -> Prop) : Prop := ∃ x d H, r = some (x, d, H) ∧ Q x d H
noncomputable def wN (n : Nat) (F : FF) (ds : List D) (H : HD) (Q : D -> HD -> Prop) : Prop := ds.length = n ∧ wE (F ds H) Q
noncomputable def br (b : Bool) (P Q : Prop) : Prop := (b = true -> P) ∧ (b = false -> Q)
noncomputable def Zwp (k : SD -> HD -> Prop) (Q : FD -> SD -> HD -> Prop) : FD -> SD -> HD -> Prop
 | .nx, σ, H => k σ H
 | r, σ, H => Q r σ H
noncomputable def fin (Q : D -> HD -> Prop) : FD -> SD -> HD -> Prop
 | .rt d, _, H => Q d H
 | .nx, _, H => Q .non H
 | _, _, _ => False
section
variable {σ : SD} {H : HD} {Q : D -> HD -> Prop}
theorem Zl2 {r : Option (D × HD)} {d : D} {H : HD} (e : r = some (d, H)) (q : Q d H) : wE r Q := ⟨d, H, e, q⟩
theorem w_var {i : Nat} {d : D} (h : (σ[i]?).join = some d) (q : Q d H) : wE (Zac i σ H) Q := ⟨d, H, by unfold Zac; rw [h]; rfl, q⟩
theorem w_c {d : D} (q : Q d H) : wE (eC d σ H) Q := ⟨d, H, rfl, q⟩
theorem w_op {g : F2} {fa fb : EF} (h : wE (fa σ H) fun x H1 => wE (fb σ H1) fun y H2 => wE (g x y H2) Q) : wE (eOp g fa fb σ H) Q := by
 obtain ⟨x, H1, e1, y, H2, e2, d, H3, e3, q⟩ := h
 exact ⟨d, H3, op e1 e2 e3, q⟩
theorem w_un {g : D -> HD -> Option (D × HD)} {fa : EF} (h : wE (fa σ H) fun x H1 => wE (g x H1) Q) : wE (eUn g fa σ H) Q := by
 obtain ⟨x, H1, e1, d, H3, e3, q⟩ := h
 exact ⟨d, H3, by unfold eUn; rw [e1]; exact e3, q⟩
theorem w_tof {f : EF} {Q : Bool -> HD -> Prop} (h : wE (f σ H) fun d H1 => ∃ b, d = .bl b ∧ Q b H1) : wT (tOf f σ H) Q := by
 obtain ⟨d, H1, e, b, rfl, q⟩ := h
 exact ⟨b, H1, tof e, q⟩
theorem w_bl {b : Bool} {P : Bool -> Prop} (h : P b) : ∃ c, D.bl b = .bl c ∧ P c := ⟨b, rfl, h⟩
theorem w_ttru {f : EF} {Q : Bool -> HD -> Prop} (h : wE (f σ H) fun d H1 => ∃ b, Zpn d H1 = some b ∧ Q b H1) : wT (Zhq f σ H) Q := by
 obtain ⟨d, H1, e, b, e2, q⟩ := h
 exact ⟨b, H1, by unfold Zhq; rw [e]; simp only [Zb]; rw [e2]; rfl, q⟩
theorem w_no {t : TF} {Q : Bool -> HD -> Prop} (h : wT (t σ H) fun b H1 => Q (!b) H1) : wT (tNo t σ H) Q := by
 obtain ⟨b, H1, e, q⟩ := h
 exact ⟨!b, H1, by unfold tNo; rw [e]; rfl, q⟩
theorem w_an {t u : TF} {Q : Bool -> HD -> Prop} (h : wT (t σ H) fun b H1 => br b (wT (u σ H1) Q) (Q false H1)) : wT (tAn t u σ H) Q := by
 obtain ⟨b, H1, e, q1, q2⟩ := h
 cases b with
 | true => obtain ⟨c, H2, e2, q⟩ := q1 rfl; exact ⟨c, H2, (anT e).trans e2, q⟩
 | false => exact ⟨false, H1, anF e, q2 rfl⟩
theorem w_or {t u : TF} {Q : Bool -> HD -> Prop} (h : wT (t σ H) fun b H1 => br b (Q true H1) (wT (u σ H1) Q)) : wT (Zu1 t u σ H) Q := by
 obtain ⟨b, H1, e, q1, q2⟩ := h
 cases b with
 | true => exact ⟨true, H1, orT e, q1 rfl⟩
 | false => obtain ⟨c, H2, e2, q⟩ := q2 rfl; exact ⟨c, H2, (orF e).trans e2, q⟩
theorem w_eno {f : EF} (h : wE (f σ H) fun d H1 => ∃ b, d = .bl b ∧ Q (.bl (!b)) H1) : wE (eNo f σ H) Q := by
 obtain ⟨d, H1, e, b, rfl, q⟩ := h
 exact ⟨.bl (!b), H1, by unfold eNo; rw [e]; rfl, q⟩
theorem w_ean {f g : EF} (h : wE (f σ H) fun d H1 => ∃ b, d = .bl b ∧ br b (wE (g σ H1) Q) (Q (.bl false) H1)) : wE (eAn f g σ H) Q := by
 obtain ⟨d, H1, e, b, rfl, q1, q2⟩ := h
 unfold eAn
 rw [e]; simp only [Zb, blD]
 cases b with
 | true => rw [if_pos rfl]; exact q1 rfl
 | false => rw [if_neg (by simp)]; exact ⟨_, _, rfl, q2 rfl⟩
theorem w_eorr {f g : EF} (h : wE (f σ H) fun d H1 => ∃ b, d = .bl b ∧ br b (Q (.bl true) H1) (wE (g σ H1) Q)) : wE (eOrr f g σ H) Q := by
 obtain ⟨d, H1, e, b, rfl, q1, q2⟩ := h
 unfold eOrr
 rw [e]; simp only [Zb, blD]
 cases b with
 | true => rw [if_pos rfl]; exact ⟨_, _, rfl, q1 rfl⟩
 | false => rw [if_neg (by simp)]; exact q2 rfl
theorem w_eif {t : TF} {f g : EF} (h : wT (t σ H) fun b H1 => br b (wE (f σ H1) Q) (wE (g σ H1) Q)) : wE (eIf t f g σ H) Q := by
 obtain ⟨b, H1, e, q1, q2⟩ := h
 unfold eIf
 rw [e]; simp only [Zb]
 cases b with
 | true => rw [if_pos rfl]; exact q1 rfl
 | false => rw [if_neg (by simp)]; exact q2 rfl
theorem w_anil {Q : List D -> HD -> Prop} (q : Q [] H) : wA (Zae σ H) Q := ⟨[], H, rfl, q⟩
theorem w_acons {f : EF} {g : AF} {Q : List D -> HD -> Prop} (h : wE (f σ H) fun d H1 => wA (g σ H1) fun ds H2 => Q (d :: ds) H2) : wA (Zaa f g σ H) Q := by
 obtain ⟨d, H1, e1, ds, H2, e2, q⟩ := h
 exact ⟨d :: ds, H2, ac e1 e2, q⟩
theorem w_cb {g : FF} {f : AF} (h : wA (f σ H) fun ds H1 => wE (g ds H1) Q) : wE (eCB g f σ H) Q := by
 obtain ⟨ds, H1, e1, d, H2, e2, q⟩ := h
 exact ⟨d, H2, cb e1 e2, q⟩
theorem w_call {n : Nat} {F : FF} {f : AF} (h : wA (f σ H) fun ds H1 => wN n F ds H1 Q) : wE (Zai n F f σ H) Q := by
 obtain ⟨ds, H1, e1, hl, d, H2, e2, q⟩ := h
 exact ⟨d, H2, ca e1 hl e2, q⟩
theorem w_n {n : Nat} {F : FF} {ds : List D} (hl : ds.length = n) (h : wE (F ds H) Q) : wN n F ds H Q := ⟨hl, h⟩
theorem w_tup {f : AF} (h : wA (f σ H) fun ds H1 => ds.length ≤ 1000000 ∧ Q (.tup ds) H1) : wE (Zfk f σ H) Q := by
 obtain ⟨ds, H1, e1, hl, q⟩ := h
 exact ⟨_, H1, tp e1 hl, q⟩
theorem w_lst {f : AF} (h : wA (f σ H) fun ds H1 => ds.length ≤ 1000000 ∧ Q (.ref H1.length) (H1 ++ [.lst ds])) : wE (Zds f σ H) Q := by
 obtain ⟨ds, H1, e1, hl, q⟩ := h
 exact ⟨_, _, ls e1 hl, q⟩
theorem w_lm {g : D -> List D -> HD -> Option (D × HD)} {fo : EF} {f : AF} (h : wE (fo σ H) fun o H1 => Zmc o H1 = true ∧ wA (f σ H1) fun ds H2 => wE (g o ds H2) Q) : wE (eLM g fo f σ H) Q := by
 obtain ⟨o, H1, e1, i, ds, H2, e2, d, H3, e3, q⟩ := h
 exact ⟨d, H3, by unfold eLM; rw [e1]; simp only [Zb]; rw [if_pos i, e2]; exact e3, q⟩
theorem w_dn (q : Q (.ref H.length) (H ++ [.dic [] false])) : wE (eDN σ H) Q := ⟨_, _, rfl, q⟩
theorem w_on {Q : Option Int -> HD -> Prop} (q : Q none H) : wO (Zhp σ H) Q := ⟨none, H, rfl, q⟩
theorem w_os {f : EF} {Q : Option Int -> HD -> Prop} (h : wE (f σ H) fun d H1 => ∃ i, d = .int i ∧ Q (some i) H1) : wO (Zgu f σ H) Q := by
 obtain ⟨d, H1, e, i, rfl, q⟩ := h
 exact ⟨some i, H1, os e, q⟩
theorem w_int {i : Int} {P : Int -> Prop} (h : P i) : ∃ c, D.int i = .int c ∧ P c := ⟨i, rfl, h⟩
theorem w_sl {fe : EF} {fl fh : OF} (h : wE (fe σ H) fun x H1 => wO (fl σ H1) fun l H2 => wO (fh σ H2) fun u H3 => wE (slD x l u H3) Q) : wE (eSl fe fl fh σ H) Q := by
 obtain ⟨x, H1, e1, l, H2, e2, u, H3, e3, d, H4, e4, q⟩ := h
 exact ⟨d, H4, sl e1 e2 e3 e4, q⟩
variable {R : FD -> SD -> HD -> Prop}
theorem w_snil (q : R .nx σ H) : wS (Zaj σ H) R := ⟨_, _, _, rfl, q⟩
theorem w_seq {f g : SF} (h : wS (f σ H) (Zwp (fun σ1 H1 => wS (g σ1 H1) R) R)) : wS (Zaf f g σ H) R := by
 obtain ⟨x, σ1, H1, e, k⟩ := h
 unfold Zaf
 rw [e]; simp only [Zb]
 cases x with
 | nx => exact k
 | bk => exact ⟨_, _, _, rfl, k⟩
 | ct => exact ⟨_, _, _, rfl, k⟩
 | rt d => exact ⟨_, _, _, rfl, k⟩
theorem w_kn {k : SD -> HD -> Prop} (h : k σ H) : Zwp k R .nx σ H := h
theorem w_kr {k : SD -> HD -> Prop} {d : D} (h : R (.rt d) σ H) : Zwp k R (.rt d) σ H := h
theorem Zqa {r : Option (FD × SD × HD)} {k : SD -> HD -> Prop} (J : SD -> HD -> Prop) (h : wS r fun x σ H => x = .nx ∧ J σ H) (q : ∀ σ H, J σ H -> k σ H) : wS r (Zwp k R) := by
 obtain ⟨x, s, H, e, rfl, j⟩ := h
 exact ⟨_, s, H, e, q s H j⟩
theorem w_fr {d : D} (h : Q d H) : fin Q (.rt d) σ H := h
theorem w_fn (h : Q .non H) : fin Q .nx σ H := h
theorem w_ret {f : EF} (h : wE (f σ H) fun d H1 => R (.rt d) σ H1) : wS (Zbi f σ H) R := by
 obtain ⟨d, H1, e, q⟩ := h; exact ⟨_, _, _, rt e, q⟩
theorem w_expr {f : EF} (h : wE (f σ H) fun d H1 => R .nx σ H1) : wS (Zel f σ H) R := by
 obtain ⟨d, H1, e, q⟩ := h; exact ⟨_, _, _, by unfold Zel; rw [e]; rfl, q⟩
theorem w_if {t : TF} {f g : SF} (h : wT (t σ H) fun b H1 => br b (wS (f σ H1) R) (wS (g σ H1) R)) : wS (sIf t f g σ H) R := by
 obtain ⟨b, H1, e, q1, q2⟩ := h
 rw [Zk9 e]
 cases b with
 | true => rw [if_pos rfl]; exact q1 rfl
 | false => rw [if_neg (by simp)]; exact q2 rfl
theorem w_set {i : Nat} {f : EF} (h : wE (f σ H) fun d H1 => R .nx (σ.set i (some d)) H1) : wS (Za0 i f σ H) R := by
 obtain ⟨d, H1, e, q⟩ := h; exact ⟨_, _, _, by unfold Za0; rw [e]; rfl, q⟩
theorem w_asg {f : EF} {g : GF} (h : wE (f σ H) fun d H1 => wG (g d σ H1) fun σ2 H2 => R .nx σ2 H2) : wS (Zod f g σ H) R := by
 obtain ⟨d, H1, e, σ2, H2, e2, q⟩ := h; exact ⟨_, _, _, by unfold Zod; rw [e]; simp only [Zb]; rw [e2]; rfl, q⟩
theorem w_gnm {i : Nat} {d : D} {Q : SD -> HD -> Prop} (h : Q (σ.set i (some d)) H) : wG (gNm i d σ H) Q := ⟨_, _, rfl, h⟩
theorem w_gsb {fo fi : EF} {g : Zv8} {d : D} {Q : SD -> HD -> Prop} (h : wE (fo σ H) fun o H1 => wE (fi σ H1) fun i H2 => wH (g o i d H2) fun H3 => Q σ H3) : wG (gSb fo fi g d σ H) Q := by
 obtain ⟨o, H1, e1, i, H2, e2, H3, e3, q⟩ := h
 exact ⟨σ, H3, by unfold gSb; rw [e1]; simp only [Zb]; rw [e2]; simp only [Zb]; rw [e3]; rfl, q⟩
theorem w_gtp {n : Nat} {g : GFs} {ds : List D} {Q : SD -> HD -> Prop} (hl : ds.length = n) (h : wG (g ds σ H) Q) : wG (gTp n g (.tup ds) σ H) Q := by
 obtain ⟨s, H1, e, q⟩ := h
 exact ⟨s, H1, by unfold gTp; simp only [if_pos hl]; exact e, q⟩
theorem w_gnl {Q : SD -> HD -> Prop} (h : Q σ H) : wG (gNl [] σ H) Q := ⟨_, _, rfl, h⟩
theorem w_gcn {g : GF} {h : GFs} {d : D} {r : List D} {Q : SD -> HD -> Prop} (q : wG (g d σ H) fun σ1 H1 => wG (h r σ1 H1) Q) : wG (gCn g h (d :: r) σ H) Q := by
 obtain ⟨s, H1, e, s2, H2, e2, q⟩ := q
 exact ⟨s2, H2, by unfold gCn; simp only; rw [e]; exact e2, q⟩
theorem w_for {it : ItF} {g : GF} {b : SF} (h : wI (it σ H) fun xs own H1 => wS (Zf4 own g b xs σ H1) R) : wS (Zft it g b σ H) R := by
 obtain ⟨xs, own, H1, e, q⟩ := h
 unfold Zft; rw [e]; exact q
theorem Zbu {n N : Nat} {b : SF} {ds : List D} (hl : ds.length = n) (h : wS (b (ds.map some ++ List.replicate (N - ds.length) none) H) (fin Q)) : wE (Za5 n N b ds H) Q := by
 obtain ⟨x, s, H1, e, q⟩ := h
 unfold Za5
 rw [if_pos hl, e]
 simp only [Zb]
 cases x with
 | nx => exact ⟨_, _, rfl, q⟩
 | rt d => exact ⟨_, _, rfl, q⟩
 | bk => exact q.elim
 | ct => exact q.elim
theorem w_lc {it : ItF} {ci : List Nat} {tt : TF} {te : EF} (h : wI (it σ H) fun xs own H1 => wA (Zem own (Zsb ci σ) tt te xs H1) fun ds H2 => ds.length ≤ 1000000 ∧ Q (.ref H2.length) (H2 ++ [.lst ds])) : wE (eLC it ci tt te σ H) Q := by
 obtain ⟨xs, own, H1, e, ds, H2, e2, hl, q⟩ := h
 exact ⟨_, _, by unfold eLC; rw [e]; simp only [Zb]; rw [e2]; exact if_pos (Zeh hl), q⟩
theorem w_bt {P S : Prop} (h : P) : br true P S := ⟨fun _ => h, nofun⟩
theorem w_bf {P S : Prop} (h : S) : br false P S := ⟨nofun, fun _ => h⟩
theorem w_bnt {P S : Prop} (h : P) : br (!false) P S := ⟨fun _ => h, nofun⟩
theorem w_bnf {P S : Prop} (h : S) : br (!true) P S := ⟨nofun, fun _ => h⟩
theorem w_bT {b : Bool} {P S : Prop} (e : b = true) (h : P) : br b P S := by subst e; exact w_bt h
theorem w_bF {b : Bool} {P S : Prop} (e : b = false) (h : S) : br b P S := by subst e; exact w_bf h
theorem w_sz {ds : List D} {P : Prop} (h : ds.length ≤ 1000000) (q : P) : ds.length ≤ 1000000 ∧ P := ⟨h, q⟩
theorem w_addI {i j : Int} (q : Q (.int (i + j)) H) : wE (Zb4 (.int i) (.int j) H) Q := ⟨_, _, rfl, q⟩
theorem w_addT {a b : List D} (h : a.length + b.length ≤ 1000000) (q : Q (.tup (a ++ b)) H) : wE (Zb4 (.tup a) (.tup b) H) Q := ⟨_, _, adT h, q⟩
theorem w_subI {i j : Int} (q : Q (.int (i - j)) H) : wE (Zmd (.int i) (.int j) H) Q := ⟨_, _, suI i j H, q⟩
theorem w_lt {i j : Int} (q : Q (.bl (decide (i < j))) H) : wE (ltD (.int i) (.int j) H) Q := ⟨_, _, by simp [ltD, iiD, CT], q⟩
theorem w_le {i j : Int} (q : Q (.bl (decide (i ≤ j))) H) : wE (leD (.int i) (.int j) H) Q := ⟨_, _, by simp [leD, iiD, CT], q⟩
theorem w_gt {i j : Int} (q : Q (.bl (decide (j < i))) H) : wE (gtD (.int i) (.int j) H) Q := ⟨_, _, by simp [gtD, iiD, CT], q⟩
theorem w_mod {i j : Int} (h : 0 < j) (q : Q (.int (i % j)) H) : wE (Zgr (.int i) (.int j) H) Q := ⟨_, _, by have c : Zoz i j := h; simp [Zgr, iiD, c], q⟩
theorem w_fdiv {i j : Int} (h : 0 < j) (h2 : j < 1073741824) (q : Q (.int (i / j)) H) : wE (Zht (.int i) (.int j) H) Q := ⟨_, _, by have c : Zw3 i j := ⟨h, h2⟩; simp [Zht, iiD, c], q⟩
theorem w_mulL {i j : Int} (h1 : -(2 ^ 64) < i) (h2 : i < 2 ^ 64) (q : Q (.int (i * j)) H) : wE (Zgt (.int i) (.int j) H) Q := ⟨_, _, by have c : Zqo i j := .inl ⟨h1, h2⟩; simp [Zgt, c], q⟩
theorem w_mulR {i j : Int} (h1 : -(2 ^ 64) < j) (h2 : j < 2 ^ 64) (q : Q (.int (i * j)) H) : wE (Zgt (.int i) (.int j) H) Q := ⟨_, _, by have c : Zqo i j := .inr ⟨h1, h2⟩; simp [Zgt, c], q⟩
theorem w_neg {i : Int} (q : Q (.int (-i)) H) : wE (Zm7 (.int i) H) Q := ⟨_, _, rfl, q⟩
theorem w_eqI {i j : Int} (q : Q (.bl (i == j)) H) : wE (eqD (.int i) (.int j) H) Q := ⟨_, _, Zpz _ _ _, q⟩
theorem w_eqS {a b : Str} (q : Q (.bl (a == b)) H) : wE (eqD (.str a) (.str b) H) Q := ⟨_, _, rfl, q⟩
theorem w_neS {a b : Str} (q : Q (.bl (a != b)) H) : wE (neD (.str a) (.str b) H) Q := ⟨_, _, rfl, q⟩
theorem w_lenT {xs : List D} (q : Q (.int xs.length) H) : wE (Zb5 [.tup xs] H) Q := ⟨_, _, lenT xs H, q⟩
theorem w_lenR {n : Nat} {xs : List D} (h : H[n]? = some (.lst xs)) (q : Q (.int xs.length) H) : wE (Zb5 [.ref n] H) Q := ⟨_, _, by simp [Zb5, Zf7, h], q⟩
theorem w_lenF {xs : List D} (q : Q (.int xs.length) H) : wE (Zb5 [.fl xs] H) Q := ⟨_, _, by simp [Zb5, Zf7], q⟩
theorem w_abs {i : Int} (q : Q (.int (Zbo i)) H) : wE (Zuc [.int i] H) Q := ⟨_, _, rfl, q⟩
theorem w_ixT {xs : List D} {i : Int} {d : D} (h : atI xs i = some d) (q : Q d H) : wE (ixD (.tup xs) (.int i) H) Q := ⟨_, _, ixT h, q⟩
theorem w_ixR {n : Nat} {xs : List D} {i : Int} {d : D} (g : H[n]? = some (.lst xs)) (h : atI xs i = some d) (q : Q d H) : wE (ixD (.ref n) (.int i) H) Q := ⟨_, _, by simp [ixD, Zf7, g, h], q⟩
theorem w_intB {b : Bool} (q : Q (.int (if b then 1 else 0)) H) : wE (Zug [.bl b] H) Q := ⟨_, _, rfl, q⟩
theorem w_max {i j : Int} (q : Q (.int (if j > i then j else i)) H) : wE (maxD [.int i, .int j] H) Q := ⟨_, _, rfl, q⟩
theorem w_min {i j : Int} (q : Q (.int (if j < i then j else i)) H) : wE (Zx8 [.int i, .int j] H) Q := ⟨_, _, rfl, q⟩
theorem w_tupR {n : Nat} {xs : List D} (h : H[n]? = some (.lst xs)) (q : Q (.tup xs) H) : wE (Zdq [.ref n] H) Q := ⟨_, _, tu h, q⟩
theorem Zn2 {n : Nat} {xs : List D} {d : D} (h : H[n]? = some (.lst xs)) (hl : xs.length < 1000000) (q : Q .non (H.set n (.lst (xs ++ [d])))) : wE (Zdc (.ref n) [d] H) Q :=
 ⟨_, _, by simp [Zdc, h, Nat.lt_of_lt_of_le hl (Zeh (Nat.le_refl _))], q⟩
theorem w_isN {d : D} {b : Bool} (h : isB d .non = some b) (q : Q (.bl b) H) : wE (isD d .non H) Q := ⟨_, _, by simp [isD, h], q⟩
theorem w_isBl {d : D} {c b : Bool} (h : isB d (.bl c) = some b) (q : Q (.bl b) H) : wE (isD d (.bl c) H) Q := ⟨_, _, by simp [isD, h], q⟩
theorem Zuz {n : Nat} {kvs : List (D × D)} {fz : Bool} {k : D} {ks : List Int} {v : D} (h : H[n]? = some (.dic kvs fz)) (hk : nk k = some ks) (hv : Za4 kvs ks = some v) (q : Q v H) : wE (Zfc (.ref n) k H) Q := ⟨_, _, by simp [Zfc, Ztd, h, hk, hv], q⟩
theorem w_truB {b : Bool} {P : Bool -> Prop} (h : P b) : ∃ c, Zpn (.bl b) H = some c ∧ P c := ⟨b, rfl, h⟩
theorem w_eqS' {a b : Str} {r : Bool} (hr : (a == b) = r) (q : Q (.bl r) H) : wE (eqD (.str a) (.str b) H) Q := w_eqS (by rw [hr]; exact q)
theorem w_eqI' {a b : Int} {r : Bool} (hr : (a == b) = r) (q : Q (.bl r) H) : wE (eqD (.int a) (.int b) H) Q := w_eqI (by rw [hr]; exact q)
theorem w_slhi {xs : List D} {k : Nat} (q : Q (.tup (xs.take k)) H) : wE (slD (.tup xs) none (some (k : Int)) H) Q := ⟨_, _, slhi, q⟩
theorem w_sllo {xs : List D} {k : Nat} (q : Q (.tup (xs.drop k)) H) : wE (slD (.tup xs) (some (k : Int)) none H) Q := ⟨_, _, sllo, q⟩
variable {I : List D -> Zgy -> HD -> Prop}
theorem w_isq {f : EF} (h : wE (f σ H) fun d H1 => ∃ xs own, Zgn d H1 = some (xs, own) ∧ I xs own H1) : wI (iSq f σ H) I := by
 obtain ⟨d, H1, e, xs, own, e2, q⟩ := h
 exact ⟨xs, own, H1, by unfold iSq; rw [e]; simp only [Zb]; rw [e2]; rfl, q⟩
theorem w_itT {xs : List D} {P : List D -> Zgy -> Prop} (h : P xs []) : ∃ ys own, Zgn (.tup xs) H = some (ys, own) ∧ P ys own := ⟨_, _, rfl, h⟩
theorem w_itR {n : Nat} {xs : List D} {P : List D -> Zgy -> Prop} (g : H[n]? = some (.lst xs)) (h : P xs [(n, .lst xs)]) : ∃ ys own, Zgn (.ref n) H = some (ys, own) ∧ P ys own := ⟨_, _, by simp [Zgn, g], h⟩
theorem w_ir1 {f : AF} (h : wA (f σ H) fun ds H1 => ∃ j, ds = [.int j] ∧ Zb3 j ∧ I (Za2 0 j.toNat) [] H1) : wI (iR1 f σ H) I := by
 obtain ⟨ds, H1, e, j, rfl, s, q⟩ := h
 exact ⟨_, _, H1, by unfold iR1; rw [e]; exact if_pos s, q⟩
theorem w_ir2 {f : AF} (h : wA (f σ H) fun ds H1 => ∃ i j, ds = [.int i, .int j] ∧ Zb3 i ∧ Zb3 j ∧ I (Za2 i (j - i).toNat) [] H1) : wI (iR2 f σ H) I := by
 obtain ⟨ds, H1, e, i, j, rfl, s1, s2, q⟩ := h
 exact ⟨_, _, H1, by unfold iR2; rw [e]; exact if_pos ⟨s1, s2⟩, q⟩
theorem Zud {own : Zgy} {g : GF} {b : SF} (h : Zcj own H) (q : R .nx σ H) : wS (Zf4 own g b [] σ H) R := ⟨_, _, _, by rw [Zf4, if_pos h], q⟩
noncomputable def again (k : SD -> HD -> Prop) (R : FD -> SD -> HD -> Prop) : FD -> SD -> HD -> Prop
 | .nx, σ, H => k σ H
 | .ct, σ, H => k σ H
 | .bk, σ, H => R .nx σ H
 | .rt d, σ, H => R (.rt d) σ H
theorem Zpl {own : Zgy} {g : GF} {b : SF} {x : D} {r : List D} (h : Zcj own H) (q : wG (g x σ H) fun σ1 H1 => wS (b σ1 H1) (again (fun σ2 H2 => wS (Zf4 own g b r σ2 H2) R) R)) : wS (Zf4 own g b (x :: r) σ H) R := by
 obtain ⟨σ1, H1, e1, y, σ2, H2, e2, q⟩ := q
 rw [Zf4, if_pos h, e1]
 simp only [Zb]
 rw [e2]
 cases y with
 | nx => exact q
 | ct => exact q
 | bk => exact ⟨_, _, _, rfl, q⟩
 | rt d => exact ⟨_, _, _, rfl, q⟩
theorem w_agn {k : SD -> HD -> Prop} (h : k σ H) : again k R .nx σ H := h
theorem w_agr {k : SD -> HD -> Prop} {d : D} (h : R (.rt d) σ H) : again k R (.rt d) σ H := h
theorem Zd1 {own : Zgy} {g : GF} {b : SF} (Inv : List D -> List D -> SD -> HD -> Prop) (ho : ∀ d t σ H, Inv d t σ H -> Zcj own H)
  (st : ∀ d x t σ H, Inv d (x :: t) σ H -> wG (g x σ H) fun σ1 H1 => wS (b σ1 H1) (again (fun σ2 H2 => Inv (d ++ [x]) t σ2 H2) R))
  (q : ∀ d σ H, Inv d [] σ H -> R .nx σ H) : ∀ (t d : List D) (σ : SD) (H : HD), Inv d t σ H -> wS (Zf4 own g b t σ H) R
 | [], d, σ, H, i => Zud (ho _ _ _ _ i) (q d σ H i)
 | x :: t, d, σ, H, i => by
  refine Zpl (ho _ _ _ _ i) ?_
  obtain ⟨σ1, H1, e1, y, σ2, H2, e2, k⟩ := st d x t σ H i
  refine ⟨σ1, H1, e1, y, σ2, H2, e2, ?_⟩
  cases y with
  | nx => exact Zd1 Inv ho st q t _ σ2 H2 k
  | ct => exact Zd1 Inv ho st q t _ σ2 H2 k
  | bk => exact k
  | rt d => exact k
theorem Zo8 {own : Zgy} {g : GF} {b : SF} (Inv : SD -> HD -> Prop) (ho : ∀ σ H, Inv σ H -> Zcj own H) : ∀ (xs : List D) (st : ∀ x ∈ xs, ∀ σ H, Inv σ H -> wG (g x σ H) fun σ1 H1 => wS (b σ1 H1) (again Inv R)) (σ : SD) (H : HD), Inv σ H -> (∀ σ H, Inv σ H -> R .nx σ H) -> wS (Zf4 own g b xs σ H) R
 | [], st, σ, H, i, q => Zud (ho _ _ i) (q σ H i)
 | x :: t, st, σ, H, i, q => by
  refine Zpl (ho _ _ i) ?_
  obtain ⟨σ1, H1, e1, y, σ2, H2, e2, k⟩ := st x (by simp) σ H i
  refine ⟨σ1, H1, e1, y, σ2, H2, e2, ?_⟩
  cases y with
  | nx => exact Zo8 Inv ho t (fun z hz => st z (by simp [hz])) σ2 H2 k q
  | ct => exact Zo8 Inv ho t (fun z hz => st z (by simp [hz])) σ2 H2 k q
  | bk => exact k
  | rt d => exact k
theorem Znh {own : Zgy} {c0 : SD} {tt : TF} {te : EF} {Q : List D -> HD -> Prop} (h : Zcj own H) (q : Q [] H) : wA (Zem own c0 tt te [] H) Q := ⟨_, _, by rw [Zem, if_pos h], q⟩
theorem Zke {own : Zgy} {c0 : SD} {tt : TF} {te : EF} {x : D} {r : List D} {Q : List D -> HD -> Prop} (h : Zcj own H)
  (q : wT (tt (some x :: c0) H) fun b H1 => br b (wE (te (some x :: c0) H1) fun e H2 => wA (Zem own c0 tt te r H2) fun es H3 => Q (e :: es) H3) (wA (Zem own c0 tt te r H1) Q)) : wA (Zem own c0 tt te (x :: r) H) Q := by
 obtain ⟨b, H1, e1, q1, q2⟩ := q
 rw [Zem, if_pos h, e1]
 simp only [Zb]
 cases b with
 | true =>
  obtain ⟨e, H2, e2, es, H3, e3, q⟩ := q1 rfl
  exact ⟨e :: es, H3, by rw [if_pos rfl, e2]; simp only [Zb]; rw [e3]; rfl, q⟩
 | false => rw [if_neg (by simp)]; exact q2 rfl
theorem w_yes {Q : Bool -> HD -> Prop} (q : Q true H) : wT (Zr9 σ H) Q := ⟨_, _, rfl, q⟩
theorem Zhx {own : Zgy} {c0 : SD} {tt : TF} {te : EF} (Inv : List D -> List D -> List D -> HD -> Prop) (ho : ∀ d t o H, Inv d t o H -> Zcj own H)
  (st : ∀ d x t o H, Inv d (x :: t) o H -> wT (tt (some x :: c0) H) fun b H1 => br b (wE (te (some x :: c0) H1) fun e H2 => Inv (d ++ [x]) t (o ++ [e]) H2) (Inv (d ++ [x]) t o H1))
  {Q : List D -> HD -> Prop} : ∀ (t d o : List D) (H : HD), Inv d t o H -> (∀ d o' H', Inv d [] (o ++ o') H' -> Q o' H') -> wA (Zem own c0 tt te t H) Q
 | [], d, o, H, i, q => Znh (ho _ _ _ _ i) (q d [] H (by rw [List.append_nil]; exact i))
 | x :: t, d, o, H, i, q => by
  refine Zke (ho _ _ _ _ i) ?_
  obtain ⟨b, H1, e1, q1, q2⟩ := st d x t o H i
  refine ⟨b, H1, e1, fun h => ?_, fun h => ?_⟩
  ·obtain ⟨e, H2, e2, k⟩ := q1 h
   refine ⟨e, H2, e2, ?_⟩
   refine Zhx Inv ho st t _ _ H2 k fun d' o' H' i' => q d' (e :: o') H' ?_
   rw [List.append_assoc] at i'; exact i'
  ·exact Zhx Inv ho st t _ _ H1 (q2 h) fun d' o' H' i' => q d' o' H' i'
theorem Zea {own : Zgy} {c0 : SD} {tt : TF} (f : D -> Bool) (J : HD -> Prop) (ho : ∀ H, J H -> Zcj own H) {Q : List D -> HD -> Prop} : ∀ (xs : List D) (st : ∀ x ∈ xs, ∀ H, J H -> wT (tt (some x :: c0) H) fun b H1 => b = f x ∧ J H1) (H : HD), J H -> (∀ H', J H' -> Q (xs.filter f) H') -> wA (Zem own c0 tt (Zac 0) xs H) Q
 | [], st, H, j, q => Znh (ho H j) (q H j)
 | x :: xs, st, H, j, q => by
  refine Zke (ho H j) ?_
  obtain ⟨b, H1, e, rfl, j1⟩ := st x (by simp) H j
  refine ⟨_, H1, e, fun h => ?_, fun h => ?_⟩
  ·refine ⟨x, H1, rfl, ?_⟩
   refine Zea f J ho xs (fun y hy => st y (by simp [hy])) H1 j1 fun H' j' => ?_
   have := q H' j'
   rwa [List.filter_cons_of_pos h] at this
  ·refine Zea f J ho xs (fun y hy => st y (by simp [hy])) H1 j1 fun H' j' => ?_
   have := q H' j'
   rwa [List.filter_cons_of_neg (by rw [h]; simp)] at this
theorem Zq8 {own : Zgy} {c0 : SD} {te : EF} (g : D -> D) (J : HD -> Prop) (ho : ∀ H, J H -> Zcj own H) {Q : List D -> HD -> Prop} : ∀ (xs : List D) (st : ∀ x ∈ xs, ∀ H, J H -> wE (te (some x :: c0) H) fun d H1 => d = g x ∧ J H1) (H : HD), J H -> (∀ H', J H' -> Q (xs.map g) H') -> wA (Zem own c0 Zr9 te xs H) Q
 | [], st, H, j, q => Znh (ho H j) (q H j)
 | x :: xs, st, H, j, q => by
  refine Zke (ho H j) (w_yes (w_bt ?_))
  obtain ⟨b, H1, e, rfl, j1⟩ := st x (by simp) H j
  exact ⟨_, H1, e, Zq8 g J ho xs (fun y hy => st y (by simp [hy])) H1 j1 q⟩
theorem Zua {own : Zgy} {c0 : SD} {tt : TF} {te : EF} (f : D -> Bool) (g : D -> D) (J : HD -> Prop) (ho : ∀ H, J H -> Zcj own H) {Q : List D -> HD -> Prop} : ∀ (xs : List D) (st : ∀ x ∈ xs, ∀ H, J H -> wT (tt (some x :: c0) H) fun b H1 => b = f x ∧ J H1) (st2 : ∀ x ∈ xs, f x = true -> ∀ H, J H -> wE (te (some x :: c0) H) fun d H1 => d = g x ∧ J H1) (H : HD), J H -> (∀ H', J H' -> Q ((xs.filter f).map g) H') -> wA (Zem own c0 tt te xs H) Q
 | [], st, st2, H, j, q => Znh (ho H j) (q H j)
 | x :: xs, st, st2, H, j, q => by
  refine Zke (ho H j) ?_
  obtain ⟨b, H1, e, rfl, j1⟩ := st x (by simp) H j
  refine ⟨_, H1, e, fun h => ?_, fun h => ?_⟩
  ·obtain ⟨d, H2, e2, rfl, j2⟩ := st2 x (by simp) h H1 j1
   refine ⟨_, H2, e2, ?_⟩
   refine Zua f g J ho xs (fun y hy => st y (by simp [hy])) (fun y hy => st2 y (by simp [hy])) H2 j2 fun H' j' => ?_
   have := q H' j'
   rwa [List.filter_cons_of_pos h] at this
  ·refine Zua f g J ho xs (fun y hy => st y (by simp [hy])) (fun y hy => st2 y (by simp [hy])) H1 j1 fun H' j' => ?_
   have := q H' j'
   rwa [List.filter_cons_of_neg (by rw [h]; simp)] at this
end
structure Fm (S : List Nat) (H H' : HD) : Prop where
 old : ∀ (m : Nat) (o : DO), m ∉ S -> H[m]? = some o -> H'[m]? = some o ∨ ∃ kvs, o = .dic kvs false ∧ H'[m]? = some (.dic kvs true)
 len : H.length ≤ H'.length
theorem Fm.refl {S : List Nat} {H : HD} : Fm S H H := ⟨fun _ _ _ h => .inl h, Nat.le_refl _⟩
theorem Fm.trans {S : List Nat} {H H1 H2 : HD} (a : Fm S H H1) (b : Fm S H1 H2) : Fm S H H2 := by
 refine ⟨fun m o hm h => ?_, Nat.le_trans a.len b.len⟩
 rcases a.old m o hm h with h1 | ⟨kvs, rfl, h1⟩
 ·exact b.old m o hm h1
 ·rcases b.old m _ hm h1 with h2 | ⟨k2, e, _⟩
  ·exact .inr ⟨kvs, rfl, h2⟩
  ·cases e
theorem Fm.sub {S T : List Nat} {H H' : HD} (a : Fm S H H') (h : ∀ m ∈ S, m ∈ T) : Fm T H H' := ⟨fun m o hm q => a.old m o (fun z => hm (h m z)) q, a.len⟩
theorem Fm.app {S : List Nat} {H : HD} (L : HD) : Fm S H (H ++ L) := ⟨fun m o _ q => .inl (by
 have : m < H.length := (List.getElem?_eq_some_iff.mp q).1
 rw [List.getElem?_append_left this]; exact q), by simp⟩
theorem Fm.set {S : List Nat} {H : HD} {p : Nat} {o : DO} (h : p ∈ S) : Fm S H (H.set p o) := ⟨fun m u hm q => .inl (by rw [List.getElem?_set_ne (fun z => hm (by rw [← z]; exact h))]; exact q), by simp⟩
theorem Fm.new {S T : List Nat} {H H1 H' : HD} (a : Fm S H H1) (b : Fm T H1 H') (h : ∀ m ∈ T, m ∉ S -> H.length ≤ m) : Fm S H H' := by
 refine ⟨fun m o hm q => ?_, Nat.le_trans a.len b.len⟩
 have lt : m < H.length := (List.getElem?_eq_some_iff.mp q).1
 have ht : m ∉ T := fun z => by have := h m z hm; omega
 rcases a.old m o hm q with h1 | ⟨kvs, rfl, h1⟩
 ·exact b.old m o ht h1
 ·rcases b.old m _ ht h1 with h2 | ⟨k2, e, _⟩
  ·exact .inr ⟨kvs, rfl, h2⟩
  ·cases e
theorem Fm.lst {S : List Nat} {H H' : HD} (x : Fm S H H') {m : Nat} {xs : List D} (hm : m ∉ S) (h : H[m]? = some (.lst xs)) : H'[m]? = some (.lst xs) := by
 rcases x.old m _ hm h with h1 | ⟨k2, e, _⟩
 ·exact h1
 ·cases e
theorem Fm.dic {S : List Nat} {H H' : HD} (x : Fm S H H') {m : Nat} {kvs : List (D × D)} {fz : Bool} (hm : m ∉ S) (h : H[m]? = some (.dic kvs fz)) : ∃ fz', H'[m]? = some (.dic kvs fz') := by
 rcases x.old m _ hm h with h1 | ⟨k2, e, h1⟩
 ·exact ⟨fz, h1⟩
 ·cases e; exact ⟨true, h1⟩
theorem _root_.DL.Ext.fm {n : Nat} {H H' : HD} (x : Ext n H H') : Fm [n] H H' := ⟨fun m o hm q => .inl (x.old m o (by simpa using hm) q), x.len⟩
theorem _root_.LH.ExtS.fm {S : List Nat} {H H' : HD} (x : ExtS S H H') : Fm S H H' := ⟨fun m o hm q => .inl (x.old m o hm q), x.len⟩
theorem isl {H : HD} {n : Nat} {xs : List D} (h : H[n]? = some (.lst xs)) : Zmc (.ref n) H = true := by simp [Zmc, h]
theorem Zxb {H : HD} {n : Nat} {o : DO} (h : H[n]? = some o) : Zcj [(n, o)] H := by intro p hp; simp at hp; subst hp; exact h
theorem Zko {H : HD} : Zcj [] H := by intro p hp; cases hp
theorem last {H : HD} {o : DO} : (H ++ [o])[H.length]? = some o := by simp
theorem appL {H : HD} {n : Nat} {o u : DO} (h : H[n]? = some o) : (H ++ [u])[n]? = some o := by
 rw [List.getElem?_append_left (List.getElem?_eq_some_iff.mp h).1]; exact h
theorem Zx6 {H : HD} {n m : Nat} {o u : DO} (hn : n ≠ m) (h : H[m]? = some o) : (H.set n u)[m]? = some o := by rw [List.getElem?_set_ne hn]; exact h
theorem setS {H : HD} {n : Nat} {o u : DO} (h : H[n]? = some u) : (H.set n o)[n]? = some o := List.getElem?_set_self (List.getElem?_eq_some_iff.mp h).1
structure Fine (d : D) (x : PyData) (h : Nat) : Prop where
 to : ∀ H n, toP H n d = some x
 lay : x.canLay0 = true
 dep : x.depth ≤ h
theorem Fine.int (i : Int) : Fine (.int i) (.int i) 0 := ⟨fun H n => Zji H n i, rfl, Nat.le_refl _⟩
theorem Fine.bl (b : Bool) : Fine (.bl b) (.bool b) 0 := ⟨fun H n => Ziv H n b, rfl, Nat.le_refl _⟩
structure Fines (ds : List D) (xs : List PyData) (h : Nat) : Prop where
 to : ∀ H n, Ze9 H n ds = some xs
 lay : PyData.canLayAll0 xs = true
 dep : PyData.depthAll xs ≤ h
 len : xs.length = ds.length
theorem Fines.nil {h : Nat} : Fines [] [] h := ⟨fun H n => by rw [Ze9], rfl, Nat.zero_le _, rfl⟩
theorem Fines.cons {d : D} {x : PyData} {ds : List D} {xs : List PyData} {h : Nat} (a : Fine d x h) (b : Fines ds xs h) : Fines (d :: ds) (x :: xs) h :=
 ⟨fun H n => by rw [Ze9, a.to, b.to]; rfl, by simp [PyData.canLayAll0, a.lay, b.lay], by simp only [PyData.depthAll]; exact Nat.max_le.mpr ⟨a.dep, b.dep⟩, by simp [b.len]⟩
theorem Fine.tup {ds : List D} {xs : List PyData} {h : Nat} (f : Fines ds xs h) : Fine (.tup ds) (.tuple xs) (h + 1) :=
 ⟨fun H n => by cases n <;> rw [toP, f.to] <;> rfl, f.lay, Nat.succ_le_succ f.dep⟩
theorem Fine.dat {d : D} {x : PyData} {h : Nat} (f : Fine d x h) (l : h ≤ 30) (H : HD) : DL.dat d H = some x := by
 unfold DL.dat
 rw [f.to]
 have : x.depth ≤ 30 := Nat.le_trans f.dep l
 simp [okP, f.lay, this]
theorem Fines.dat {ds : List D} {xs : List PyData} {h : Nat} (f : Fines ds xs h) (l : h < 30) {H : HD} {p : Nat} (g : H[p]? = some (.lst ds)) : DL.dat (.ref p) H = some (.list xs) := by
 unfold DL.dat
 rw [toP]
 simp only [g]
 rw [f.to]
 have : (PyData.list xs).depth ≤ 30 := Nat.le_trans (Nat.succ_le_succ f.dep) l
 have h2 : (PyData.list xs).canLay0 = true := f.lay
 simp [okP, h2, this]
mutual
theorem Zm6 : ∀ x : PyData, x.canLay0 = true -> PyData.eqv x x = true
 | .none, _ => by simp [PyData.eqv]
 | .bool _, _ => by simp [PyData.eqv]
 | .int _, _ => by simp [PyData.eqv]
 | .str _, _ => by simp [PyData.eqv]
 | .list xs, h => by rw [PyData.eqv]; exact Zfi xs h
 | .tuple xs, h => by rw [PyData.eqv]; exact Zfi xs h
 | .dict _, h => by cases h
theorem Zfi : ∀ xs : List PyData, PyData.canLayAll0 xs = true -> PyData.eqvAll xs xs = true
 | [], _ => by rw [PyData.eqvAll]
 | x :: xs, h => by
  simp only [PyData.canLayAll0, Bool.and_eq_true] at h
  rw [PyData.eqvAll, Zm6 x h.1, Zfi xs h.2]; rfl
end
theorem Zq6 {a b : D} {x y : PyData} {H : HD} (h1 : dat a H = some x) (h2 : dat b H = some y) : eqD a b H = some (.bl (PyData.eqv x y), H) := by
 unfold eqD
 cases e : Zoj a b with
 | none => rw [h1, h2]; rfl
 | some p =>
  obtain ⟨s, t⟩ := p
  unfold Zoj at e
  split at e
  ·cases e
   unfold dat at h1 h2
   rw [Zhc] at h1 h2
   simp only [Zb] at h1 h2
   split at h1
   ·split at h2
    ·cases h1; cases h2; simp [PyData.eqv]
    ·cases h2
   ·cases h1
  ·cases e
theorem Zmu {a b : D} {x y : PyData} {H : HD} (h1 : dat a H = some x) (h2 : dat b H = some y) : neD a b H = some (.bl (!PyData.eqv x y), H) := by
 unfold neD
 cases e : Zoj a b with
 | none => rw [h1, h2]; rfl
 | some p =>
  obtain ⟨s, t⟩ := p
  unfold Zoj at e
  split at e
  ·cases e
   unfold dat at h1 h2
   rw [Zhc] at h1 h2
   simp only [Zb] at h1 h2
   split at h1
   ·split at h2
    ·cases h1; cases h2; simp [PyData.eqv]; rfl
    ·cases h2
   ·cases h1
  ·cases e
variable {H : HD} {Q : D -> HD -> Prop}
theorem Zzg {a b : D} {x y : PyData} {h k : Nat} (f : Fine a x h) (g : Fine b y k) (hh : h ≤ 30) (hk : k ≤ 30) (q : Q (.bl (PyData.eqv x y)) H) : wE (eqD a b H) Q := ⟨_, _, Zq6 (f.dat hh H) (g.dat hk H), q⟩
theorem w_neF {a b : D} {x y : PyData} {h k : Nat} (f : Fine a x h) (g : Fine b y k) (hh : h ≤ 30) (hk : k ≤ 30) (q : Q (.bl (!PyData.eqv x y)) H) : wE (neD a b H) Q := ⟨_, _, Zmu (f.dat hh H) (g.dat hk H), q⟩
theorem Zvx {xs : List D} {ys : List PyData} {h : Nat} (f : Fines xs ys h) : PyData.eqv (.tuple ys) (.tuple []) = xs.isEmpty := by
 have := f.len
 cases ys with
 | nil => cases xs with
  | nil => rfl
  | cons _ _ => simp at this
 | cons p ps => cases xs with
  | nil => simp at this
  | cons _ _ => simp [PyData.eqv, PyData.eqvAll]
theorem Zwf {xs : List D} {ys : List PyData} {h : Nat} (f : Fines xs ys h) (hh : h < 30) (q : Q (.bl xs.isEmpty) H) : wE (eqD (.tup xs) (.tup []) H) Q :=
 Zzg (Fine.tup f) (Fine.tup (Fines.nil (h := 0))) (by omega) (by omega) (by rw [Zvx f]; exact q)
theorem w_neI {i j : Int} (q : Q (.bl (!(i == j))) H) : wE (neD (.int i) (.int j) H) Q := w_neF (.int i) (.int j) (by omega) (by omega) (by simpa [PyData.eqv] using q)
theorem w_neI' {i j : Int} {r : Bool} (hr : (i == j) = r) (q : Q (.bl (!r)) H) : wE (neD (.int i) (.int j) H) Q := w_neI (by rw [hr]; exact q)
end WP
set_option maxHeartbeats 8000000
namespace K08
open PySem L2 DL
noncomputable def k_TRUTHS : D := (.tup [(.bl false), (.bl true)])
noncomputable def Zb8 : SF :=
 (Zaf (Zbi (eOrr (eOp isD (Zac 0) (eC (.bl true))) (eOp isD (Zac 0) (eC (.bl false)))))
 Zaj)
noncomputable def Zcy : FF := Za5 1 1 Zb8
noncomputable def Zd9 : SF :=
 (Zaf (Zbi (eOp gtD (eCB Zuc (Zaa (Zac 0) Zae)) (eCB Zb5 (Zaa (Zac 1) Zae))))
 Zaj)
noncomputable def Zfq : FF := Za5 2 2 Zd9
noncomputable def Zdd : SF :=
 (Zaf (Zbi (eAn (eNo (Zai 2 Zfq (Zaa (Zac 0) (Zaa (Zac 1) Zae)))) (eOp eqD (eOp ixD (Zac 1) (eOp Zmd (eCB Zuc (Zaa (Zac 0) Zae)) (eC (.int 1)))) (eOp gtD (Zac 0) (eC (.int 0))))))
 Zaj)
noncomputable def Zgh : FF := Za5 2 2 Zdd
noncomputable def Zeb : SF :=
 (Zaf (Zft (iSq (Zac 0)) (gNm 2) (Zaf (sIf (Zhq (Zai 2 Zgh (Zaa (Zac 2) (Zaa (Zac 1) Zae)))) (Zaf (Zbi (eC (.bl true)))
 Zaj) Zaj)
 Zaj))
 (Zaf (Zbi (eC (.bl false)))
 Zaj))
noncomputable def Zid : FF := Za5 2 3 Zeb
noncomputable def Zco : SF :=
 (Zaf (Zbi (eIf (tOf (eOp gtD (Zac 0) (eC (.int 0)))) (eOp Zmd (Zac 0) (Zac 1)) (eOp Zb4 (Zac 0) (Zac 1))))
 Zaj)
noncomputable def Zd6 : FF := Za5 2 2 Zco
noncomputable def Zdp : SF :=
 (Zaf (Zbi (eCB Zdq (Zaa (eLC (iSq (Zac 0)) [1] (Zhq (Zai 2 Zfq (Zaa (Zac 0) (Zaa (Zac 1) Zae)))) (Zai 2 Zd6 (Zaa (Zac 0) (Zaa (eCB Zb5 (Zaa (Zac 1) Zae)) Zae)))) Zae)))
 Zaj)
noncomputable def Zgc : FF := Za5 2 2 Zdp
noncomputable def Zk4 : SF :=
 (Zaf (Za0 2 (eLC (iSq (eOp ixD (Zac 0) (eC (.int 1)))) [1] (tNo (Zhq (Zai 2 Zid (Zaa (Zac 0) (Zaa (Zac 1) Zae))))) (Zai 2 Zgc (Zaa (Zac 0) (Zaa (Zac 1) Zae)))))
 (Zaf (Zbi (Zfk (Zaa (eSl (eOp ixD (Zac 0) (eC (.int 0))) (Zgu (eCB Zb5 (Zaa (Zac 1) Zae))) Zhp) (Zaa (eCB Zdq (Zaa (Zac 2) Zae)) Zae))))
 Zaj))
noncomputable def Zqk : FF := Za5 2 3 Zk4
noncomputable def Zbn : SF :=
 (Zaf (Za0 1 eDN)
 (Zaf (Zft (Zte (Zaa (Zac 0) Zae)) (gTp 2 (gCn (gNm 2) (gCn (gNm 3) gNl))) (Zaf (Zel (eDM Zij (Zac 1) (Zaa (Zac 3) (Zaa (Zac 2) Zae))))
 Zaj))
 (Zaf (Zbi (Zac 1))
 Zaj)))
noncomputable def Zb2 : FF := Za5 1 4 Zbn
noncomputable def Zby : SF :=
 (Zaf (Za0 3 (eIf (Zhq (Zac 2)) (Zac 1) (eUn Zm7 (Zac 1))))
 (Zaf (Za0 4 eDN)
 (Zaf (Zft (iDic (Zac 0)) (gNm 5) (Zaf (Za0 6 (eIf (Zhq (Zac 5)) (eOp ixD (Zac 5) (eC (.int 0))) (eC (.int 0))))
 (Zaf (sIf (tOf (eOp eqD (Zac 6) (eUn Zm7 (Zac 3)))) (Zaf (Zel (eDM Zij (Zac 4) (Zaa (eSl (Zac 5) (Zgu (eC (.int 1))) Zhp) (Zaa (eOp Zfc (Zac 0) (Zac 5)) Zae))))
 Zaj) (Zaf (sIf (tOf (eOp neD (Zac 6) (Zac 3))) (Zaf (Zel (eDM Zij (Zac 4) (Zaa (Zac 5) (Zaa (eOp Zfc (Zac 0) (Zac 5)) Zae))))
 Zaj) Zaj)
 Zaj))
 Zaj)))
 (Zaf (Zbi (Zac 4))
 Zaj))))
noncomputable def Zax : FF := Za5 3 7 Zby
noncomputable def Za8 : SF :=
 (Zaf (Za0 2 (Zai 1 Zb2 (Zaa (Zac 0) Zae)))
 (Zaf (Zft (Zns (Zaa (Zac 1) Zae)) (gTp 2 (gCn (gNm 3) (gCn (gNm 4) gNl))) (Zaf (Za0 2 (Zai 3 Zax (Zaa (Zac 2) (Zaa (Zac 3) (Zaa (Zac 4) Zae)))))
 Zaj))
 (Zaf (Zbi (Zac 2))
 Zaj)))
noncomputable def Zbk : FF := Za5 2 5 Za8
noncomputable def Zcf : SF :=
 (Zaf (Zbi (eIf (tOf (eOp eqD (Zac 0) (eC (.str "some")))) (eC (.str "all")) (eC (.str "some"))))
 Zaj)
noncomputable def Zbt : FF := Za5 1 1 Zcf
noncomputable def Zap (F : FF) : SF :=
 (Zaf (sIf (tOf (eOp dinD (Zfk Zae) (Zac 1))) (Zaf (Zbi (eC (.str "all")))
 Zaj) Zaj)
 (Zaf (sIf (tOf (eOp eqD (eCB Zos (Zaa (Zac 1) Zae)) (eC (.int 0)))) (Zaf (Zbi (eC (.str "some")))
 Zaj) Zaj)
 (Zaf (Za0 3 (eOp ixD (Zac 0) (Zac 2)))
 (Zaf (Zft (iSq (eC k_TRUTHS)) (gNm 4) (Zaf (sIf (tOf (eOp eqD (Zai 3 F (Zaa (Zac 0) (Zaa (Zai 3 Zax (Zaa (Zac 1) (Zaa (eOp Zb4 (Zac 2) (eC (.int 1))) (Zaa (Zac 4) Zae)))) (Zaa (eOp Zb4 (Zac 2) (eC (.int 1))) Zae)))) (Zac 3))) (Zaf (Zbi (Zac 3))
 Zaj) Zaj)
 Zaj))
 (Zaf (Zbi (Zai 1 Zbt (Zaa (Zac 3) Zae)))
 Zaj)))))
noncomputable def Zb1 : FF := Zv2 3 5 Zap 10
noncomputable def Zfz : SF :=
 (Zaf (Zbi (Zai 3 Zb1 (Zaa (eOp ixD (Zac 0) (eC (.int 0))) (Zaa (Zai 2 Zbk (Zaa (eOp ixD (Zac 0) (eC (.int 1))) (Zaa (Zac 1) Zae))) (Zaa (eCB Zb5 (Zaa (Zac 1) Zae)) Zae)))))
 Zaj)
noncomputable def Zfm : FF := Za5 2 2 Zfz
noncomputable def Zcg : SF :=
 (Zaf (sIf (tOf (eOp eqD (eCB Zb5 (Zaa (Zac 1) Zae)) (eCB Zb5 (Zaa (eOp ixD (Zac 0) (eC (.int 0))) Zae)))) (Zaf (Zbi (Zds Zae))
 Zaj) Zaj)
 (Zaf (Za0 2 (eOp ixD (eOp ixD (Zac 0) (eC (.int 0))) (eCB Zb5 (Zaa (Zac 1) Zae))))
 (Zaf (Zbi (eLC (iSq (eC k_TRUTHS)) [0, 1, 2] (tOf (eOp eqD (Zai 2 Zfm (Zaa (Zac 1) (Zaa (eOp Zb4 (Zac 2) (Zfk (Zaa (Zac 0) Zae))) Zae))) (Zac 3))) (Zac 0)))
 Zaj)))
noncomputable def Zd5 : FF := Za5 2 3 Zcg
noncomputable def Zb9 : SF :=
 (Zaf (Za0 2 (eC (.int 0)))
 (Zaf (sIf (tOf (eOp ltD (Zac 1) (eCB Zb5 (Zaa (Zac 0) Zae)))) (Zaf (Za0 2 (eOp ixD (Zac 0) (Zac 1)))
 Zaj) Zaj)
 (Zaf (Za0 3 (eC (.int 0)))
 (Zaf (sIf (tOf (eOp geD (Zac 2) (eOp Zk5 (eC (.int 10)) (eC (.int 18))))) (Zaf (Za0 3 (eOp Zmd (Zac 2) (eOp Zk5 (eC (.int 10)) (eC (.int 18)))))
 Zaj) Zaj)
 (Zaf (Za0 4 (eOp Zgr (eOp Zb4 (eOp Zb4 (eOp Zgt (eOp Zgr (Zac 2) (eC (.int 2147483647))) (eC (.int 48271))) (eOp Zgt (eC (.int 7919)) (Zac 1))) (eC (.int 5))) (eC (.int 2147483629))))
 (Zaf (Zbi (Zds (Zaa (Zac 3) (Zaa (eOp Zb4 (eOp Zgr (eOp Zk5 (Zac 4) (eC (.int 5))) (eC (.int 2147483587))) (eC (.int 1))) Zae))))
 Zaj))))))
noncomputable def Zcb : FF := Za5 2 5 Zb9
noncomputable def Zb7 : SF :=
 (Zaf (sIf (tOf (eOp gtD (eOp ixD (Zac 0) (eC (.int 0))) (eC (.int 0)))) (Zaf (Za0 2 (eOp Zgr (eOp ixD (Zac 0) (eC (.int 0))) (Zac 1)))
 (Zaf (Zod (eOp Zht (eOp ixD (Zac 0) (eC (.int 0))) (Zac 1)) (gSb (Zac 0) (eC (.int 0)) Zuw))
 (Zaf (Zbi (Zac 2))
 Zaj))) Zaj)
 (Zaf (Zod (eOp Zgr (eOp Zb4 (eOp Zgt (eOp ixD (Zac 0) (eC (.int 1))) (eC (.int 69621))) (eC (.int 12345))) (eC (.int 2147483647))) (gSb (Zac 0) (eC (.int 1)) Zuw))
 (Zaf (Zbi (eOp Zgr (eOp Zht (eOp ixD (Zac 0) (eC (.int 1))) (eC (.int 8191))) (Zac 1)))
 Zaj)))
noncomputable def Zah : FF := Za5 2 3 Zb7
noncomputable def Zcu : SF :=
 (Zaf (Zbi (eOp ixD (Zac 1) (Zai 2 Zah (Zaa (Zac 0) (Zaa (eCB Zb5 (Zaa (Zac 1) Zae)) Zae)))))
 Zaj)
noncomputable def Za7 : FF := Za5 2 2 Zcu
noncomputable def Zek : SF :=
 (Zaf (Za0 2 (Zds (Zaa (eC (.int 1)) (Zaa (eC (.int 2)) (Zaa (eC (.int 2)) (Zaa (eC (.int 3)) (Zaa (eC (.int 3)) (Zaa (eC (.int 4)) (Zaa (eC (.int 2)) (Zaa (eC (.int 3)) (Zaa (eC (.int 1)) (Zaa (eOp Zb4 (eC (.int 5)) (Zai 2 Zah (Zaa (Zac 0) (Zaa (eC (.int 4)) Zae)))) (Zaa (eC (.int 2)) (Zaa (eOp Zgt (eC (.int 2)) (eCB Zug (Zaa (eOp gtD (Zai 2 Zah (Zaa (Zac 0) (Zaa (eC (.int 6)) Zae))) (eC (.int 0))) Zae))) Zae))))))))))))))
 (Zaf (Za0 3 (eCB Zx8 (Zaa (Zac 1) (Zaa (Zai 2 Za7 (Zaa (Zac 0) (Zaa (Zac 2) Zae))) Zae))))
 (Zaf (Za0 4 (eLR2 (Zaa (eC (.int 1)) (Zaa (eOp Zb4 (Zac 1) (eC (.int 1))) Zae))))
 (Zaf (Za0 5 (Zds Zae))
 (Zaf (Zft (iR1 (Zaa (Zac 3) Zae)) (gNm 6) (Zaf (Zel (eLM Zdc (Zac 5) (Zaa (eLM Zyj (Zac 4) (Zaa (Zai 2 Zah (Zaa (Zac 0) (Zaa (eCB Zb5 (Zaa (Zac 4) Zae)) Zae))) Zae)) Zae)))
 Zaj))
 (Zaf (Zbi (eCB Zdq (Zaa (eLC (iSq (eCB Zhf (Zaa (Zac 5) Zae))) [0] Zr9 (eOp ixD (Zds (Zaa (Zac 0) (Zaa (eUn Zm7 (Zac 0)) Zae))) (Zai 2 Zah (Zaa (Zac 1) (Zaa (eC (.int 2)) Zae))))) Zae)))
 Zaj))))))
noncomputable def Zfu : FF := Za5 2 7 Zek
noncomputable def Zdo : SF :=
 (Zaf (Za0 2 (eOp Zb4 (eC (.int 1)) (Zai 2 Zah (Zaa (Zac 0) (Zaa (eC (.int 25)) Zae)))))
 (Zaf (sIf (tOf (eOp eqD (Zai 2 Zah (Zaa (Zac 0) (Zaa (eC (.int 2)) Zae))) (eC (.int 0)))) (Zaf (Zbi (Zfk (Zaa (eOp ixD (Zac 1) (eC (.int 0))) (Zaa (eOp Zb4 (eOp Zgt (eSl (eOp ixD (Zac 1) (eC (.int 1))) Zhp (Zgu (eC (.int 1)))) (Zac 2)) (eOp ixD (Zac 1) (eC (.int 1)))) Zae))))
 Zaj) Zaj)
 (Zaf (Zbi (Zfk (Zaa (eOp ixD (Zac 1) (eC (.int 0))) (Zaa (eOp Zb4 (eCB Zdq (Zaa (eLC (iR1 (Zaa (Zac 2) Zae)) [0, 1] Zr9 (Zai 2 Zfu (Zaa (Zac 1) (Zaa (eCB Zb5 (Zaa (eOp ixD (Zac 2) (eC (.int 0))) Zae)) Zae)))) Zae)) (eOp ixD (Zac 1) (eC (.int 1)))) Zae))))
 Zaj)))
noncomputable def Zf5 : FF := Za5 2 3 Zdo
noncomputable def Zcz : SF :=
 (Zaf (Za0 3 (Zai 2 Za7 (Zaa (Zac 0) (Zaa (Zds (Zaa (Zac 1) (Zaa (eOp Zmd (Zac 1) (eC (.int 1))) (Zaa (Zac 1) (Zaa (eOp Zmd (Zac 1) (eC (.int 2))) (Zaa (Zac 1) (Zaa (Zai 2 Zah (Zaa (Zac 0) (Zaa (eOp Zb4 (Zac 1) (eC (.int 1))) Zae))) Zae))))))) Zae))))
 (Zaf (Za0 4 (Zai 2 Zah (Zaa (Zac 0) (Zaa (eC (.int 4)) Zae))))
 (Zaf (Za0 5 (eLC (iR1 (Zaa (Zac 3) Zae)) [0] Zr9 (Zai 2 Za7 (Zaa (Zac 1) (Zaa (Zds (Zaa (eC (.str "all")) (Zaa (eC (.str "some")) Zae))) Zae)))))
 (Zaf (sIf (tOf (eOp eqD (Zac 4) (eC (.int 0)))) (Zaf (Za0 5 (eLC (iR1 (Zaa (Zac 3) Zae)) [] Zr9 (eOp ixD (Zds (Zaa (eC (.str "some")) (Zaa (eC (.str "all")) Zae))) (eOp Zgr (Zac 0) (eC (.int 2))))))
 Zaj) Zaj)
 (Zaf (Za0 6 (Zai 2 Za7 (Zaa (Zac 0) (Zaa (Zds (Zaa (Zac 3) (Zaa (eOp Zb4 (Zac 3) (eOp Zht (Zac 3) (eC (.int 2)))) (Zaa (eOp Zgt (eC (.int 2)) (Zac 3)) (Zaa (eOp Zb4 (eOp Zht (Zac 3) (eC (.int 2))) (eC (.int 1))) (Zaa (Zai 2 Zah (Zaa (Zac 0) (Zaa (eOp Zb4 (Zac 2) (eC (.int 1))) Zae))) (Zaa (eC (.int 2)) Zae))))))) Zae))))
 (Zaf (Za0 7 (eLC (iR1 (Zaa (eCB Zx8 (Zaa (Zac 2) (Zaa (Zac 6) Zae))) Zae)) [0, 3] Zr9 (Zai 2 Zfu (Zaa (Zac 1) (Zaa (Zac 2) Zae)))))
 (Zaf (sIf (tAn (tOf (eOp neD (Zac 7) (Zds Zae))) (tOf (eOp eqD (Zai 2 Zah (Zaa (Zac 0) (Zaa (eC (.int 6)) Zae))) (eC (.int 0))))) (Zaf (Zel (eLM Zdc (Zac 7) (Zaa (Zai 2 Za7 (Zaa (Zac 0) (Zaa (Zac 7) Zae))) Zae)))
 Zaj) Zaj)
 (Zaf (Zbi (Zfk (Zaa (eCB Zdq (Zaa (Zac 5) Zae)) (Zaa (eCB Zdq (Zaa (eSl (Zac 7) Zhp (Zgu (Zac 2))) Zae)) Zae))))
 Zaj))))))))
noncomputable def Zfa : FF := Za5 3 8 Zcz
noncomputable def Zdk : SF :=
 (Zaf (Zft (iSq (Zac 0)) (gNm 2) (Zaf (sIf (tAn (tOf (eOp leD (eCB Zuc (Zaa (Zac 2) Zae)) (eCB Zb5 (Zaa (Zac 1) Zae)))) (tOf (eOp eqD (eOp ixD (Zac 1) (eOp Zmd (eCB Zuc (Zaa (Zac 2) Zae)) (eC (.int 1)))) (eOp gtD (Zac 2) (eC (.int 0)))))) (Zaf (Zbi (eC (.bl true)))
 Zaj) Zaj)
 Zaj))
 (Zaf (Zbi (eC (.bl false)))
 Zaj))
noncomputable def Zer : FF := Za5 2 3 Zdk
noncomputable def Zc6 : SF :=
 (Zaf (Za0 1 (Zds (Zaa (Zds (Zaa (Zfk Zae) Zae)) Zae)))
 (Zaf (Zft (iR1 (Zaa (Zac 0) Zae)) (gNm 2) (Zaf (Za0 5 (Zds Zae))
 (Zaf (Zft (iSq (eOp ixD (Zac 1) (eUn Zm7 (eC (.int 1))))) (gNm 6) (Zaf (Za0 5 (eOp Zb4 (Zac 5) (Zds (Zaa (eOp Zb4 (Zac 6) (Zfk (Zaa (eC (.bl false)) Zae))) (Zaa (eOp Zb4 (Zac 6) (Zfk (Zaa (eC (.bl true)) Zae))) Zae)))))
 Zaj))
 (Zaf (Zel (eLM Zdc (Zac 1) (Zaa (Zac 5) Zae)))
 Zaj))))
 (Zaf (Za0 3 (Zds Zae))
 (Zaf (Zft (iRev (Zaa (Zac 1) Zae)) (gNm 4) (Zaf (Za0 3 (eOp Zb4 (Zac 3) (Zac 4)))
 Zaj))
 (Zaf (Zbi (Zac 3))
 Zaj)))))
noncomputable def Zfg : FF := Za5 1 7 Zc6
noncomputable def Zb0 : SF :=
 (Zaf (Za0 1 eDN)
 (Zaf (Zft (iSq (Zai 1 Zfg (Zaa (eCB Zb5 (Zaa (eOp ixD (Zac 0) (eC (.int 0))) Zae)) Zae))) (gNm 2) (Zaf (sIf (tOf (eOp eqD (eCB Zb5 (Zaa (Zac 2) Zae)) (eCB Zb5 (Zaa (eOp ixD (Zac 0) (eC (.int 0))) Zae)))) (Zaf (Zod (eOp ixD (Zds (Zaa (eC (.str "all")) (Zaa (eC (.str "some")) Zae))) (eCB Zug (Zaa (eOp niD (eC (.bl false)) (eLC (iSq (eOp ixD (Zac 0) (eC (.int 1)))) [2] Zr9 (Zai 2 Zer (Zaa (Zac 0) (Zaa (Zac 1) Zae))))) Zae))) (gSb (Zac 1) (Zac 2) Zl7))
 Zaj) (Zaf (Za0 3 (eOp ixD (eOp ixD (Zac 0) (eC (.int 0))) (eCB Zb5 (Zaa (Zac 2) Zae))))
 (Zaf (Za0 4 (Zds (Zaa (eOp Zfc (Zac 1) (eOp Zb4 (Zac 2) (Zfk (Zaa (eC (.bl false)) Zae)))) (Zaa (eOp Zfc (Zac 1) (eOp Zb4 (Zac 2) (Zfk (Zaa (eC (.bl true)) Zae)))) Zae))))
 (Zaf (Zod (eIf (tOf (eOp inD (Zac 3) (Zac 4))) (Zac 3) (eOp ixD (Zac 4) (eC (.int 0)))) (gSb (Zac 1) (Zac 2) Zl7))
 Zaj))))
 Zaj))
 (Zaf (Zbi (Zac 1))
 Zaj)))
noncomputable def Zdu : FF := Za5 1 5 Zb0
noncomputable def Zdj : SF :=
 (Zaf (Za0 2 (Zds Zae))
 (Zaf (Zft (iSq (eOp ixD (Zac 0) (eC (.int 1)))) (gNm 3) (Zaf (sIf (tNo (Zhq (Zai 2 Zer (Zaa (Zac 3) (Zaa (Zac 1) Zae))))) (Zaf (Za0 4 (eLC (iSq (Zac 3)) [1] (tOf (eOp gtD (eCB Zuc (Zaa (Zac 0) Zae)) (eCB Zb5 (Zaa (Zac 1) Zae)))) (Zac 0)))
 (Zaf (Zel (eLM Zdc (Zac 2) (Zaa (eCB Zdq (Zaa (eLC (iSq (Zac 4)) [1] Zr9 (eOp Zmd (Zac 0) (eOp Zgt (eCB Zb5 (Zaa (Zac 1) Zae)) (eOp ixD (Zds (Zaa (eC (.int 1)) (Zaa (eUn Zm7 (eC (.int 1))) Zae))) (eCB Zug (Zaa (eOp ltD (Zac 0) (eC (.int 0))) Zae)))))) Zae)) Zae)))
 Zaj)) Zaj)
 Zaj))
 (Zaf (Zbi (Zfk (Zaa (eSl (eOp ixD (Zac 0) (eC (.int 0))) (Zgu (eCB Zb5 (Zaa (Zac 1) Zae))) Zhp) (Zaa (eCB Zdq (Zaa (Zac 2) Zae)) Zae))))
 Zaj)))
noncomputable def Zgb : FF := Za5 2 5 Zdj
noncomputable def Zdm : SF :=
 (Zaf (Za0 3 (eC .non))
 (Zaf (Za0 4 (Zds Zae))
 (Zaf (sIf (tOf (eOp ltD (eCB Zb5 (Zaa (Zac 2) Zae)) (eCB Zb5 (Zaa (eOp ixD (Zac 0) (eC (.int 0))) Zae)))) (Zaf (Za0 3 (eOp ixD (eOp ixD (Zac 0) (eC (.int 0))) (eCB Zb5 (Zaa (Zac 2) Zae))))
 (Zaf (Za0 4 (eLC (iSq (Zds (Zaa (eC (.bl false)) (Zaa (eC (.bl true)) Zae)))) [1, 2, 3] (tOf (eOp eqD (eOp Zfc (Zac 1) (eOp Zb4 (Zac 2) (Zfk (Zaa (Zac 0) Zae)))) (Zac 3))) (Zac 0)))
 Zaj)) Zaj)
 (Zaf (Zbi (Zds (Zaa (Zac 2) (Zaa (Zac 3) (Zaa (eOp Zfc (Zac 1) (Zac 2)) (Zaa (Zac 4) (Zaa (Zai 2 Zgb (Zaa (Zac 0) (Zaa (Zac 2) Zae))) Zae)))))))
 Zaj))))
noncomputable def Zcv : FF := Za5 3 5 Zdm
noncomputable def Zdl : SF :=
 (Zaf (Za0 3 (Zai 2 Za7 (Zaa (Zac 0) (Zaa (Zds (Zaa (eC (.str "pick")) (Zaa (eC (.str "pick")) (Zaa (eC (.str "pick")) (Zaa (eC (.str "back")) (Zaa (eC (.str "odd")) (Zaa (eC (.str "pick")) (Zaa (eC (.str "back")) Zae)))))))) Zae))))
 (Zaf (Za0 4 (eOp eqD (Zai 2 Zah (Zaa (Zac 0) (Zaa (eC (.int 2)) Zae))) (eC (.int 1))))
 (Zaf (sIf (tOf (eOp eqD (Zac 3) (eC (.str "odd")))) (Zaf (Za0 5 (Zds (Zaa (eC (.int 0)) (Zaa (eC (.int 1)) (Zaa (eC .non) (Zaa (eC (.str "y")) (Zaa (eC (.str "True")) (Zaa (Zfk (Zaa (eC (.bl true)) Zae)) (Zaa (Zds (Zaa (eC (.bl true)) Zae)) (Zaa (eC (.int 2)) (Zaa (eUn Zm7 (eC (.int 1))) (Zaa (eC (.str "")) (Zaa (Zfk Zae) (Zaa (eC (.str "False")) (Zaa (Zds (Zaa (eC (.bl false)) (Zaa (eC (.bl true)) Zae))) (Zaa (eOp Zk5 (eC (.int 10)) (eC (.int 20))) Zae))))))))))))))))
 (Zaf (Zbi (Zfk (Zaa (Zac 3) (Zaa (Zai 2 Za7 (Zaa (Zac 0) (Zaa (Zac 5) Zae))) (Zaa (eC (.str "pick")) (Zaa (Zac 2) Zae))))))
 Zaj)) Zaj)
 (Zaf (sIf (tOf (eOp eqD (Zac 3) (eC (.str "back")))) (Zaf (Zbi (Zfk (Zaa (Zac 3) (Zaa (Zac 4) (Zaa (eOp ixD (Zds (Zaa (eC (.str "")) (Zaa (eC (.str "back")) Zae))) (eCB Zug (Zaa (eOp eqD (Zac 2) (Zfk Zae)) Zae))) (Zaa (eSl (Zac 2) Zhp (Zgu (eUn Zm7 (eC (.int 1))))) Zae))))))
 Zaj) Zaj)
 (Zaf (sIf (tOf (eOp eqD (eCB Zb5 (Zaa (Zac 2) Zae)) (Zac 1))) (Zaf (Zbi (Zfk (Zaa (Zac 3) (Zaa (Zac 4) (Zaa (eC (.str "pick")) (Zaa (Zac 2) Zae))))))
 Zaj) Zaj)
 (Zaf (Zbi (Zfk (Zaa (Zac 3) (Zaa (Zac 4) (Zaa (eC (.str "")) (Zaa (eOp Zb4 (Zac 2) (Zfk (Zaa (Zac 4) Zae))) Zae))))))
 Zaj))))))
noncomputable def Zet : FF := Za5 3 6 Zdl
noncomputable def Zcm : SF :=
 (Zaf (Zmm "Match" (Zac 0) (Zac 1) "begun")
 (Zaf (Zmm "Match" (Zac 0) (Zfk Zae) "picked")
 Zaj))
noncomputable def Zd8 : FF := Za5 2 2 Zcm
noncomputable def Zba : SF :=
 (Zaf (sIf (tNo (Zhq (Zai 1 Zcy (Zaa (Zac 1) Zae)))) (Zaf Zx7
 Zaj) Zaj)
 (Zaf (sIf (tOf (eOp eqD (eCB Zb5 (Zaa (Zg7 "Match" (Zac 0) "picked") Zae)) (eCB Zb5 (Zaa (eOp ixD (Zg7 "Match" (Zac 0) "begun") (eC (.int 0))) Zae)))) (Zaf Zx7
 Zaj) Zaj)
 (Zaf (Zmm "Match" (Zac 0) (eOp Zb4 (Zg7 "Match" (Zac 0) "picked") (Zfk (Zaa (Zac 1) Zae))) "picked")
 Zaj)))
noncomputable def Zcn : FF := Za5 2 2 Zba
noncomputable def Zao : XFs :=
 (xOr (xIf (tNo (Zhq (Zai 1 Zcy (Zaa (Zac 1) Zae)))) (Zgo (eC (.str "a pick is a truth"))))
 (Zzf (sIf (tNo (Zhq (Zai 1 Zcy (Zaa (Zac 1) Zae)))) (Zaf Zx7
 Zaj) Zaj)
 (xIf (tOf (eOp eqD (eCB Zb5 (Zaa (Zg7 "Match" (Zac 0) "picked") Zae)) (eCB Zb5 (Zaa (eOp ixD (Zg7 "Match" (Zac 0) "begun") (eC (.int 0))) Zae)))) (Zgo (eC (.str "all names are picked"))))))
noncomputable def Zbg : XFF := Zsx 2 2 Zao
noncomputable def Zbm : SF :=
 (Zaf (sIf (tOf (eOp eqD (eCB Zb5 (Zaa (Zg7 "Match" (Zac 0) "picked") Zae)) (eC (.int 0)))) (Zaf Zx7
 Zaj) Zaj)
 (Zaf (Zmm "Match" (Zac 0) (eSl (Zg7 "Match" (Zac 0) "picked") Zhp (Zgu (eUn Zm7 (eC (.int 1))))) "picked")
 Zaj))
noncomputable def Zc9 : FF := Za5 1 1 Zbm
noncomputable def Zaz : XFs :=
 (xIf (tOf (eOp eqD (eCB Zb5 (Zaa (Zg7 "Match" (Zac 0) "picked") Zae)) (eC (.int 0)))) (Zgo (eC (.str "no pick stands"))))
noncomputable def Zbs : XFF := Zsx 1 1 Zaz
noncomputable def Zdg : SF :=
 (Zaf (Za0 3 (eC .non))
 (Zaf (Za0 4 (eC .non))
 (Zaf (Za0 5 (eCB Zd4 (Zaa (Zac 2) Zae)))
 (Zaf (Zl0 6 (Zaf (Za0 4 (eIf (tOf (eOp eqD (Zac 1) (eC (.str "back")))) (Zfo "Match" "back" 1 Zc9 (Zac 0) Zae) (Zfo "Match" "pick" 2 Zcn (Zac 0) (Zaa (Zac 2) Zae))))
 Zaj) (xIfE (tOf (eOp eqD (Zac 1) (eC (.str "back")))) (Zmq "Match" "back" 1 "NoBack" Zbs (Zac 0) Zae) (Zmq "Match" "pick" 2 "NoPick" Zbg (Zac 0) (Zaa (Zac 2) Zae))) (Zaf (Za0 3 (Zac 6))
 Zaj))
 (Zaf (sIf (tOf (eOp neD (eCB Zd4 (Zaa (Zac 2) Zae)) (Zac 5))) (Zaf (Zbi (eC (.str "odd")))
 Zaj) Zaj)
 (Zaf (sIf (tOf (eOp isD (Zac 3) (eC .non))) (Zaf (Zbi (eOp ixD (Zds (Zaa (eC (.str "odd")) (Zaa (eC (.str "")) Zae))) (eCB Zug (Zaa (eOp isD (Zac 4) (eC .non)) Zae))))
 Zaj) Zaj)
 (Zaf (Za0 7 (Zse [("NoBack", false), ("NoPick", false)] (Zac 3)))
 (Zaf (Za0 8 (Zds (Zaa (Zse [("NoBack", true), ("NoPick", false)] (Zac 3)) (Zaa (Zse [("NoBack", false), ("NoPick", true)] (Zac 3)) Zae))))
 (Zaf (sIf (Zu1 (Zhq (Zac 7)) (Zu1 (tNo (Zhq (Zse [("NoBack", true), ("NoPick", true)] (Zac 3)))) (tOf (eOp neD (eLM Zh4 (Zac 8) (Zaa (eC (.bl true)) Zae)) (eC (.int 1)))))) (Zaf (Zbi (eC (.str "odd")))
 Zaj) Zaj)
 (Zaf (Zbi (eOp ixD (Zds (Zaa (eC (.str "back")) (Zaa (eC (.str "pick")) Zae))) (eLM Zhj (Zac 8) (Zaa (eC (.bl true)) Zae))))
 Zaj))))))))))
noncomputable def Zes : FF := Za5 3 9 Zdg
noncomputable def Zci : SF :=
 (Zaf (Zbi (Zg7 "Match" (Zac 0) "picked"))
 Zaj)
noncomputable def Zed : FF := Za5 1 1 Zci
noncomputable def Zck : SF :=
 (Zaf (sIf (tOf (eOp eqD (eCB Zb5 (Zaa (Zg7 "Match" (Zac 0) "picked") Zae)) (eCB Zb5 (Zaa (eOp ixD (Zg7 "Match" (Zac 0) "begun") (eC (.int 0))) Zae)))) (Zaf (Zbi (eC .non))
 Zaj) Zaj)
 (Zaf (Zbi (eOp ixD (eOp ixD (Zg7 "Match" (Zac 0) "begun") (eC (.int 0))) (eCB Zb5 (Zaa (Zg7 "Match" (Zac 0) "picked") Zae))))
 Zaj))
noncomputable def Zd7 : FF := Za5 1 1 Zck
noncomputable def Zc0 : SF :=
 (Zaf (Zbi (Zai 2 Zfm (Zaa (Zg7 "Match" (Zac 0) "begun") (Zaa (Zg7 "Match" (Zac 0) "picked") Zae))))
 Zaj)
noncomputable def Zfe : FF := Za5 1 1 Zc0
noncomputable def Zch : SF :=
 (Zaf (Zbi (Zai 2 Zd5 (Zaa (Zg7 "Match" (Zac 0) "begun") (Zaa (Zg7 "Match" (Zac 0) "picked") Zae))))
 Zaj)
noncomputable def Zef : FF := Za5 1 1 Zch
noncomputable def Zce : SF :=
 (Zaf (Zbi (Zai 2 Zqk (Zaa (Zg7 "Match" (Zac 0) "begun") (Zaa (Zg7 "Match" (Zac 0) "picked") Zae))))
 Zaj)
noncomputable def Zee : FF := Za5 1 1 Zce
noncomputable def Zc8 : SF :=
 (Zaf (sIf (tOf (eOp eqD (Zac 1) (eC (.int 0)))) (Zaf (Zbi (Zfo "Match" "play" 1 Zed (Zac 0) Zae))
 Zaj) Zaj)
 (Zaf (sIf (tOf (eOp eqD (Zac 1) (eC (.int 1)))) (Zaf (Zbi (Zfo "Match" "turn" 1 Zd7 (Zac 0) Zae))
 Zaj) Zaj)
 (Zaf (sIf (tOf (eOp eqD (Zac 1) (eC (.int 2)))) (Zaf (Zbi (Zfo "Match" "who" 1 Zfe (Zac 0) Zae))
 Zaj) Zaj)
 (Zaf (sIf (tOf (eOp eqD (Zac 1) (eC (.int 3)))) (Zaf (Zbi (Zfo "Match" "good" 1 Zef (Zac 0) Zae))
 Zaj) Zaj)
 (Zaf (Zbi (Zfo "Match" "left" 1 Zee (Zac 0) Zae))
 Zaj)))))
noncomputable def Ze7 : FF := Za5 2 2 Zc8
noncomputable def Zc1 : SF :=
 (Zaf (Za0 5 (Zai 2 Zah (Zaa (Zac 0) (Zaa (eC (.int 5)) Zae))))
 (Zaf (Za0 6 (eOp Zb4 (eC (.int 1)) (Zai 2 Zah (Zaa (Zac 0) (Zaa (eC (.int 4)) Zae)))))
 (Zaf (Zft (iR1 (Zaa (Zac 3) Zae)) (gNm 7) (Zaf (Za0 8 (eOp Zgr (eOp Zb4 (Zac 5) (eOp Zgt (Zac 6) (Zac 7))) (eC (.int 5))))
 (Zaf (Za0 9 (Zai 2 Ze7 (Zaa (Zac 1) (Zaa (Zac 8) Zae))))
 (Zaf (sIf (tOf (eOp neD (eCB Zd4 (Zaa (Zac 9) Zae)) (eCB Zd4 (Zaa (eOp ixD (Zac 2) (Zac 8)) Zae)))) (Zaf (Zbi (eC (.bl false)))
 Zaj) Zaj)
 (Zaf (sIf (tAn (tOf (eOp eqD (Zac 8) (eC (.int 3)))) (tOf (eOp eqD (Zai 2 Zah (Zaa (Zac 0) (Zaa (eC (.int 2)) Zae))) (eC (.int 0))))) (Zaf (Zel (eLM Zdc (Zac 4) (Zaa (Zfk (Zaa (Zac 9) (Zaa (eCB Zr5 (Zaa (Zac 9) Zae)) Zae))) Zae)))
 Zaj) (Zaf (sIf (tOf (eOp eqD (Zac 8) (eC (.int 3)))) (Zaf (Zel (eLM Zdc (Zac 9) (Zaa (eC .non) Zae)))
 Zaj) Zaj)
 Zaj))
 Zaj)))))
 (Zaf (Zbi (eC (.bl true)))
 Zaj))))
noncomputable def Zbq : FF := Za5 5 10 Zc1
noncomputable def Zqe : SF :=
 (Zaf (Za0 1 (Zai 2 Zcb (Zaa (Zac 0) (Zaa (eC (.int 0)) Zae))))
 (Zaf (Za0 2 (Zai 3 Zfa (Zaa (Zac 1) (Zaa (eOp ixD (Zds (Zaa (eC (.int 5)) (Zaa (eC (.int 5)) (Zaa (eC (.int 5)) (Zaa (eC (.int 5)) (Zaa (eC (.int 5)) (Zaa (eC (.int 8)) Zae))))))) (Zai 2 Zah (Zaa (Zac 1) (Zaa (eC (.int 6)) Zae)))) (Zaa (eC (.int 10)) Zae)))))
 (Zaf (sIf (tOf (eOp eqD (Zai 2 Zah (Zaa (Zac 1) (Zaa (eC (.int 8)) Zae))) (eC (.int 0)))) (Zaf (Za0 2 (Zai 2 Zf5 (Zaa (Zac 1) (Zaa (Zac 2) Zae))))
 Zaj) Zaj)
 (Zaf (Za0 3 (Zai 1 Zdu (Zaa (Zac 2) Zae)))
 (Zaf (Za0 4 (eMk "Match" 2 Zd8 (Zaa (Zac 2) Zae)))
 (Zaf (Za0 5 (Zfk Zae))
 (Zaf (Za0 6 (Zds Zae))
 (Zaf (sIf (tNo (Zhq (Zai 5 Zbq (Zaa (Zac 1) (Zaa (Zac 4) (Zaa (Zai 3 Zcv (Zaa (Zac 2) (Zaa (Zac 3) (Zaa (Zac 5) Zae)))) (Zaa (Zai 2 Zah (Zaa (Zac 1) (Zaa (eC (.int 6)) Zae))) (Zaa (Zac 6) Zae)))))))) (Zaf (Zbi (eC (.bl false)))
 Zaj) Zaj)
 (Zaf (Zft (iR2 (Zaa (eC (.int 1)) (Zaa (eCB maxD (Zaa (eC (.int 8)) (Zaa (eCB Zx8 (Zaa (eC (.int 28)) (Zaa (eCB Zb5 (Zaa (Zac 0) Zae)) Zae))) Zae))) Zae))) (gNm 7) (Zaf (Za0 1 (Zai 2 Zcb (Zaa (Zac 0) (Zaa (Zac 7) Zae))))
 (Zaf (Zft (iR1 (Zaa (Zai 2 Zah (Zaa (Zac 1) (Zaa (eC (.int 6)) Zae))) Zae)) (gNm 8) (Zaf (Zod (Zai 3 Zet (Zaa (Zac 1) (Zaa (eCB Zb5 (Zaa (eOp ixD (Zac 2) (eC (.int 0))) Zae)) (Zaa (Zac 5) Zae)))) (gTp 4 (gCn (gNm 9) (gCn (gNm 10) (gCn (gNm 11) (gCn (gNm 5) gNl))))))
 (Zaf (sIf (tOf (eOp neD (Zai 3 Zes (Zaa (Zac 4) (Zaa (Zac 9) (Zaa (Zac 10) Zae)))) (Zac 11))) (Zaf (Zbi (eC (.bl false)))
 Zaj) Zaj)
 Zaj)))
 (Zaf (sIf (tNo (Zhq (Zai 5 Zbq (Zaa (Zac 1) (Zaa (Zac 4) (Zaa (Zai 3 Zcv (Zaa (Zac 2) (Zaa (Zac 3) (Zaa (Zac 5) Zae)))) (Zaa (eOp Zb4 (eC (.int 1)) (Zai 2 Zah (Zaa (Zac 1) (Zaa (eC (.int 5)) Zae)))) (Zaa (Zac 6) Zae)))))))) (Zaf (Zbi (eC (.bl false)))
 Zaj) Zaj)
 Zaj))))
 (Zaf (sIf (tNo (Zhq (Zai 5 Zbq (Zaa (Zac 1) (Zaa (Zac 4) (Zaa (Zai 3 Zcv (Zaa (Zac 2) (Zaa (Zac 3) (Zaa (Zac 5) Zae)))) (Zaa (eC (.int 10)) (Zaa (Zac 6) Zae)))))))) (Zaf (Zbi (eC (.bl false)))
 Zaj) Zaj)
 (Zaf (Zbi (eOp eqD (Zyl (iSq (Zac 6)) [] (tOf (eOp neD (Zac 0) (Zac 1))) (eC (.int 1))) (Zds Zae)))
 Zaj)))))))))))
noncomputable def Zn3 : FF := Za5 1 12 Zqe
end K08
set_option maxHeartbeats 4000000
namespace WP
open PySem L2 DL LH
section
variable {σ : SD} {H : HD} {Q : D -> HD -> Prop} {R : FD -> SD -> HD -> Prop} {cn f m : Str} {fo fv : EF} {fa : AF} {F : FF} {k : Nat}
theorem Zdf (h : wE (fo σ H) fun d H1 => ∃ n fs, d = .ref n ∧ H1[n]? = some (.obj cn fs) ∧ ∃ v, fs.lookup f = some v ∧ Q v H1) : wE (Zg7 cn fo f σ H) Q := by
 obtain ⟨d, H1, e, n, fs, rfl, g, v, l, q⟩ := h
 exact ⟨v, H1, by unfold Zg7; rw [e]; simp only [Zb]; rw [g]; simp [l], q⟩
theorem Znu (h : wE (fv σ H) fun y H1 => wE (fo σ H1) fun d H2 => ∃ n fs, d = .ref n ∧ H2[n]? = some (.obj cn fs) ∧ fs.length < 1000 ∧ R .nx σ (H2.set n (.obj cn (Zvu f y fs)))) : wS (Zmm cn fo fv f σ H) R := by
 obtain ⟨y, H1, e1, d, H2, e, n, fs, rfl, g, l, q⟩ := h
 exact ⟨_, _, _, by unfold Zmm; rw [e1]; simp only [Zb]; rw [e]; simp only [Zb]; rw [g]; simp only; rw [if_pos ⟨trivial, l⟩], q⟩
theorem Zhk (h : wE (fo σ H) fun d H1 => ∃ n fs, d = .ref n ∧ H1[n]? = some (.obj cn fs) ∧ fs.lookup m = none ∧ wA (fa σ H1) fun ds H2 => ds.length + 1 = k ∧ wE (F (.ref n :: ds) H2) Q) : wE (Zfo cn m k F fo fa σ H) Q := by
 obtain ⟨d, H1, e, n, fs, rfl, g, l, ds, H2, e2, hl, v, H3, e3, q⟩ := h
 exact ⟨v, H3, by unfold Zfo; rw [e]; simp only [Zb]; rw [g]; simp only; rw [if_pos ⟨trivial, l⟩, e2]; simp only [Zb]; rw [if_pos hl]; exact e3, q⟩
theorem w_mk (h : wA (fa σ H) fun ds H1 => ds.length + 1 = k ∧ wE (F (.ref H1.length :: ds) (H1 ++ [.obj cn []])) fun d H2 => d = .non ∧ Q (.ref H1.length) H2) : wE (eMk cn k F fa σ H) Q := by
 obtain ⟨ds, H1, e, hl, d, H2, e2, rfl, q⟩ := h
 exact ⟨_, H2, by unfold eMk; rw [e]; simp only [Zb]; rw [if_pos hl, e2]; rfl, q⟩
theorem Fm.obj {S : List Nat} {H H' : HD} (x : Fm S H H') {n : Nat} {cn : Str} {fs : List (Str × D)} (hm : n ∉ S) (h : H[n]? = some (.obj cn fs)) : H'[n]? = some (.obj cn fs) := by
 rcases x.old n _ hm h with h1 | ⟨k2, e, _⟩
 ·exact h1
 ·cases e
end
section
variable {σ : SD} {H : HD} {Q : D -> HD -> Prop} {R : FD -> SD -> HD -> Prop} {P : HD -> Prop} {PX : Str -> HD -> Prop} {cn m xn : Str} {fo : EF} {fa : AF} {k n N i : Nat} {t : TF} {ds : List D}
theorem Zot {f g : SF} (h : f σ H = none) : Zaf f g σ H = none := by unfold Zaf; rw [h]; rfl
theorem Zze {f g : SF} (h : wS (f σ H) (Zwp (fun σ1 H1 => g σ1 H1 = none) fun _ _ _ => False)) : Zaf f g σ H = none := by
 obtain ⟨x, d, H1, e, h⟩ := h
 unfold Zaf
 rw [e]
 cases x with
 | nx => exact h
 | bk => exact h.elim
 | ct => exact h.elim
 | rt d => exact h.elim
theorem n_if {f g : SF} (h : wT (t σ H) fun b H1 => br b (f σ H1 = none) (g σ H1 = none)) : sIf t f g σ H = none := by
 obtain ⟨b, H1, e, h⟩ := h
 unfold sIf
 rw [e]
 cases b with
 | true => exact h.1 rfl
 | false => exact h.2 rfl
theorem Zxo {f : SF} : Zaf Zx7 f σ H = none := rfl
theorem Zxn {f : EF} (h : f σ H = none) : Za0 i f σ H = none := by unfold Za0; rw [h]; rfl
theorem Zv0 {f g : EF} (h : wT (t σ H) fun b H1 => br b (f σ H1 = none) (g σ H1 = none)) : eIf t f g σ H = none := by
 obtain ⟨b, H1, e, h⟩ := h
 unfold eIf
 rw [e]
 cases b with
 | true => exact h.1 rfl
 | false => exact h.2 rfl
theorem Zw2 {b : SF} (hl : ds.length = n) (h : b (ds.map some ++ List.replicate (N - ds.length) none) H = none) : Za5 n N b ds H = none := by
 unfold Za5
 rw [if_pos hl, h]; rfl
theorem Zrf {F : FF} (h : wE (fo σ H) fun d H1 => ∃ n fs, d = .ref n ∧ H1[n]? = some (.obj cn fs) ∧ fs.lookup m = none ∧ wA (fa σ H1) fun ds H2 => ds.length + 1 = k ∧ F (.ref n :: ds) H2 = none) : Zfo cn m k F fo fa σ H = none := by
 obtain ⟨d, H1, e, n, fs, rfl, g, l, ds, H2, e2, hl, e3⟩ := h
 unfold Zfo
 rw [e]; simp only [Zb]; rw [g]; simp only; rw [if_pos ⟨trivial, l⟩, e2]; simp only [Zb]; rw [if_pos hl]; exact e3
theorem x_if {b : XFs} (h : wT (t σ H) fun z H1 => z = true ∧ wH (b σ H1) P) : wH (xIf t b σ H) P := by
 obtain ⟨z, H1, e, rfl, H2, e2, q⟩ := h
 exact ⟨H2, by unfold xIf; rw [e]; exact e2, q⟩
theorem x_ifN {b : XFs} (h : wT (t σ H) fun z _ => z = false) : xIf t b σ H = none := by
 obtain ⟨z, H1, e, rfl⟩ := h
 unfold xIf
 rw [e]; rfl
theorem Zl5 {f : EF} (h : wE (f σ H) fun _ H1 => P H1) : wH (Zgo f σ H) P := by
 obtain ⟨d, H1, e, q⟩ := h
 exact ⟨H1, by unfold Zgo; rw [e]; rfl, q⟩
theorem x_seq {f : SF} {b : XFs} (h : wS (f σ H) (Zwp (fun σ1 H1 => wH (b σ1 H1) P) fun _ _ _ => False)) : wH (Zzf f b σ H) P := by
 obtain ⟨x, d, H1, e, h⟩ := h
 unfold Zzf
 rw [e]
 cases x with
 | nx => exact h
 | bk => exact h.elim
 | ct => exact h.elim
 | rt d => exact h.elim
theorem x_or1 {a b : XFs} (h : wH (a σ H) P) : wH (xOr a b σ H) P := by
 obtain ⟨H1, e, q⟩ := h
 exact ⟨H1, by unfold xOr; rw [e], q⟩
theorem x_or2 {a b : XFs} (h0 : a σ H = none) (h : wH (b σ H) P) : wH (xOr a b σ H) P := by
 obtain ⟨H1, e, q⟩ := h
 exact ⟨H1, by unfold xOr; rw [h0]; exact e, q⟩
theorem Zn0 {b : XFs} (hl : ds.length = n) (h : wH (b (ds.map some ++ List.replicate (N - ds.length) none) H) P) : wH (Zsx n N b ds H) P := by
 unfold Zsx
 rw [if_pos hl]; exact h
noncomputable def wXT (r : Option (Str × HD)) (Q : Str -> HD -> Prop) : Prop := ∃ c H, r = some (c, H) ∧ Q c H
theorem Zws {a b : XTs} (h : wT (t σ H) fun z H1 => br z (wXT (a σ H1) PX) (wXT (b σ H1) PX)) : wXT (xIfE t a b σ H) PX := by
 obtain ⟨z, H1, e, h⟩ := h
 unfold xIfE
 rw [e]
 cases z with
 | true => exact h.1 rfl
 | false => exact h.2 rfl
theorem Zly {F : XFF} (h : wE (fo σ H) fun d H1 => ∃ n fs, d = .ref n ∧ H1[n]? = some (.obj cn fs) ∧ fs.lookup m = none ∧ wA (fa σ H1) fun ds H2 => ds.length + 1 = k ∧ wH (F (.ref n :: ds) H2) (PX xn)) : wXT (Zmq cn m k xn F fo fa σ H) PX := by
 obtain ⟨d, H1, e, n, fs, rfl, g, l, ds, H2, e2, hl, H3, e3, q⟩ := h
 exact ⟨xn, H3, by unfold Zmq; rw [e]; simp only [Zb]; rw [g]; simp only; rw [if_pos ⟨trivial, l⟩, e2]; simp only [Zb]; rw [if_pos hl, e3]; rfl, q⟩
theorem Zuv {iE : Nat} {b su : SF} {x : XTs} (h : wS (b σ H) R) : wS (Zl0 iE b x su σ H) R := by
 obtain ⟨f, d, H1, e, q⟩ := h
 exact ⟨f, d, H1, by unfold Zl0; rw [e], q⟩
theorem Zpr {iE : Nat} {b su : SF} {x : XTs} (h0 : b σ H = none) (hl : iE < σ.length) (h : wXT (x σ H) fun cn H2 => wS (su (σ.set iE (some (.ref H2.length))) (H2 ++ [.exc cn])) (Zwp (fun σ3 H3 => R .nx (σ3.set iE none) H3) fun _ _ _ => False)) : wS (Zl0 iE b x su σ H) R := by
 obtain ⟨c, H2, e, f, σ3, H3, e2, q⟩ := h
 cases f with
 | nx => exact ⟨.nx, _, _, by unfold Zl0; rw [h0]; simp only; rw [e]; simp only [Zb]; rw [if_pos hl, e2]; rfl, q⟩
 | bk => exact q.elim
 | ct => exact q.elim
 | rt d => exact q.elim
theorem Zkt {tb : List (Str × Bool)} (h : wE (fo σ H) fun d H1 => ∃ n c b, d = .ref n ∧ H1[n]? = some (.exc c) ∧ tb.lookup c = some b ∧ Q (.bl b) H1) : wE (Zse tb fo σ H) Q := by
 obtain ⟨d, H1, e, n, c, b, rfl, g, l, q⟩ := h
 exact ⟨_, _, by unfold Zse; rw [e]; simp only [Zb]; rw [g]; simp only; rw [l]; rfl, q⟩
end
end WP
namespace K08
open PySem L2 DL LH
noncomputable def opn (bs : List Bool) (l : Int) : Bool := decide ((bs.length : Int) < Zbo l)
noncomputable def rig (bs : List Bool) (l : Int) : Bool := match bs[(Zbo l - 1).toNat]? with
 | some b => b == decide (0 < l)
 | none => false
noncomputable def kept (bs : List Bool) (ls : List Int) : Bool := ls.any (rig bs)
noncomputable def rest (bs : List Bool) (ls : List Int) : List Int := ls.filter (opn bs)
noncomputable def Zez (b : Int) : List Int -> List Int
 | [] => []
 | l :: r => if Zbo l = b + 1 then r else l :: r
noncomputable def Zlx (b : Int) (t : Bool) : List Int -> Bool
 | [] => false
 | l :: _ => decide (Zbo l = b + 1) && (t == decide (0 < l))
theorem Ze8 {m : Int} (bs : List Bool) : ∀ (ls : List Int) (last : Int), Up m last ls -> (bs.length : Int) ≤ last -> rest bs ls = ls ∧ kept bs ls = false
 | [], _, _, _ => ⟨rfl, rfl⟩
 | l :: r, last, u, h => by
  obtain ⟨h1, h2, h3⟩ := u
  obtain ⟨a, b⟩ := Ze8 bs r (Zbo l) h3 (by omega)
  have o : opn bs l = true := decide_eq_true (by omega)
  have g : rig bs l = false := by
   unfold rig
   rw [List.getElem?_eq_none (by omega)]
  refine ⟨?_, ?_⟩
  ·unfold rest; rw [List.filter_cons_of_pos o]; exact congrArg _ a
  ·unfold kept; rw [List.any_cons, g]; exact b
theorem Zxz {bs : List Bool} {t : Bool} {l : Int} (h : Zbo l ≤ bs.length) (h0 : 0 < Zbo l) : rig (bs ++ [t]) l = rig bs l := by
 unfold rig
 rw [List.getElem?_append_left (by omega)]
theorem Zf9 {m : Int} (bs : List Bool) (t : Bool) : ∀ (ls : List Int) (last : Int), 0 ≤ last -> Up m last ls -> rest (bs ++ [t]) ls = Zez bs.length (rest bs ls) ∧ kept (bs ++ [t]) ls = (kept bs ls || Zlx bs.length t (rest bs ls))
 | [], _, _, _ => ⟨rfl, rfl⟩
 | l :: r, last, h0, u => by
  obtain ⟨h1, h2, h3⟩ := u
  have la : (((bs ++ [t]).length : Nat) : Int) = bs.length + 1 := by simp
  by_cases c1 : Zbo l ≤ bs.length
  ·obtain ⟨a, b⟩ := Zf9 bs t r (Zbo l) (by omega) h3
   have o1 : opn bs l = false := decide_eq_false (by omega)
   have o2 : opn (bs ++ [t]) l = false := decide_eq_false (by rw [la]; omega)
   have e : rest bs (l :: r) = rest bs r := by unfold rest; rw [List.filter_cons_of_neg (by rw [o1]; simp)]
   have e' : rest (bs ++ [t]) (l :: r) = rest (bs ++ [t]) r := by unfold rest; rw [List.filter_cons_of_neg (by rw [o2]; simp)]
   rw [e, e']
   refine ⟨a, ?_⟩
   have k : ∀ cs, kept cs (l :: r) = (rig cs l || kept cs r) := fun cs => by unfold kept; rw [List.any_cons]
   rw [k, k, Zxz c1 (by omega), b, Bool.or_assoc]
  ·have o1 : opn bs l = true := decide_eq_true (by omega)
   obtain ⟨a1, a2⟩ := Ze8 bs r (Zbo l) h3 (by omega)
   have e : rest bs (l :: r) = l :: r := by unfold rest; rw [List.filter_cons_of_pos o1]; exact congrArg _ a1
   have g1 : rig bs l = false := by unfold rig; rw [List.getElem?_eq_none (by omega)]
   have k : ∀ cs, kept cs (l :: r) = (rig cs l || kept cs r) := fun cs => by unfold kept; rw [List.any_cons]
   by_cases c2 : Zbo l = bs.length + 1
   ·obtain ⟨b1, b2⟩ := Ze8 (bs ++ [t]) r (Zbo l) h3 (by rw [la]; omega)
    have o2 : opn (bs ++ [t]) l = false := decide_eq_false (by rw [la]; omega)
    have e' : rest (bs ++ [t]) (l :: r) = r := by unfold rest; rw [List.filter_cons_of_neg (by rw [o2]; simp)]; exact b1
    have g2 : rig (bs ++ [t]) l = (t == decide (0 < l)) := by
     unfold rig
     have : (Zbo l - 1).toNat = bs.length := by omega
     rw [this]; simp
    rw [e, e', k, k, g1, g2, a2, b2]
    refine ⟨by simp [Zez, c2], by simp [Zlx, c2]⟩
   ·obtain ⟨b1, b2⟩ := Ze8 (bs ++ [t]) (l :: r) (Zbo l - 1) ⟨by omega, h2, h3⟩ (by rw [la]; omega)
    rw [e, b1, k bs, g1, a2, b2]
    refine ⟨by simp [Zez, c2], by simp [Zlx, c2]⟩
theorem Znp : ∀ ls : List Int, Zkb (ls.map .int) = some ls
 | [] => rfl
 | l :: r => by simp [Zkb, nkOf, Znp r]
theorem Zfs (ls : List Int) : nk (Za1 ls) = some ls := Znp ls
theorem Zs3 {kvs : List (D × D)} {kd vd : D} {k k' : List Int} (h : nk kd = some k) (h0 : Za4 kvs k = none) : (Za4 (Zlw kvs kd k vd) k').isSome = ((Za4 kvs k').isSome || decide (k' = k)) := by
 have e : Zlw kvs kd k vd = kvs ++ [(kd, vd)] := by unfold Zlw; rw [h0]; rfl
 rw [e]
 unfold Za4
 rw [List.find?_append]
 cases q : kvs.find? (fun p => nk p.1 == some k') with
 | some p => simp
 | none =>
  by_cases c : k' = k
  ·subst c; simp [h]
  ·have : (nk kd == some k') = false := by rw [h]; simp; exact fun z => c z.symm
   simp [List.find?_cons, this, c]
structure DR (rss : List (List Int)) (bs : List Bool) (kvs : List (D × D)) : Prop where
 key : ∀ p ∈ kvs, ∃ ls ∈ rss, kept bs ls = false ∧ p.1 = Za1 (rest bs ls)
 all : ∀ ls ∈ rss, kept bs ls = false -> (Za4 kvs (rest bs ls)).isSome = true
 len : kvs.length ≤ rss.length
 val : ∀ p ∈ kvs, ∃ (i : Nat) (ls : List Int), rss[i]? = some ls ∧ kept bs ls = false ∧ p = (Za1 (rest bs ls), .int i)
structure Fz (H H' : HD) : Prop where
 old : ∀ (m : Nat) (o : DO), H[m]? = some o -> H'[m]? = some o ∨ ∃ kvs, o = .dic kvs false ∧ H'[m]? = some (.dic kvs true)
 len : H.length ≤ H'.length
theorem Fz.refl {H : HD} : Fz H H := ⟨fun _ _ h => .inl h, Nat.le_refl _⟩
theorem Fz.trans {H H1 H2 : HD} (a : Fz H H1) (b : Fz H1 H2) : Fz H H2 := by
 refine ⟨fun m o h => ?_, Nat.le_trans a.len b.len⟩
 rcases a.old m o h with h1 | ⟨kvs, rfl, h1⟩
 ·exact b.old m o h1
 ·rcases b.old m _ h1 with h2 | ⟨k2, e, _⟩
  ·exact .inr ⟨kvs, rfl, h2⟩
  ·cases e
theorem Fz.app {H : HD} (L : HD) : Fz H (H ++ L) := ⟨fun m o q => .inl (by
 have : m < H.length := (List.getElem?_eq_some_iff.mp q).1
 rw [List.getElem?_append_left this]; exact q), by simp⟩
theorem Fz.dic {H H' : HD} (x : Fz H H') {m : Nat} {kvs : List (D × D)} {fz : Bool} (h : H[m]? = some (.dic kvs fz)) : ∃ fz', H'[m]? = some (.dic kvs fz') := by
 rcases x.old m _ h with h1 | ⟨k2, e, h1⟩
 ·exact ⟨fz, h1⟩
 ·cases e; exact ⟨true, h1⟩
theorem dm {g : D -> List D -> HD -> Option (D × HD)} {fo : EF} {f : AF} {σ : SD} {H H1 H2 : HD} {o : D} {ds : List D} {r : Option (D × HD)} (h1 : fo σ H = some (o, H1)) (hd : Zm2 o H1 = true) (h2 : f σ H1 = some (ds, H2)) (h3 : g o ds H2 = r) : eDM g fo f σ H = r := by
 unfold eDM; rw [h1]; simp only [Zb]; rw [if_pos hd, h2]; exact h3
theorem ex {f : EF} {σ : SD} {H H1 : HD} {d : D} (h : f σ H = some (d, H1)) : Zel f σ H = some (.nx, σ, H1) := by unfold Zel; rw [h]; rfl
noncomputable def Zgj (acc : List (D × D)) (k : List Int) (v : D) : List (D × D) := if (Za4 acc k).isSome = true then acc else acc ++ [(Za1 k, v)]
theorem Zmj {q : Nat} {acc : List (D × D)} {k : List Int} {v : D} {H : HD} (h : H[q]? = some (.dic acc false)) (hl : acc.length ≤ 100000) : ∃ z, Zij (.ref q) [Za1 k, v] H = some (z, H.set q (.dic (Zgj acc k v) false)) := by
 have sz : acc.length < sizeLine := by rw [PySem.sizeLine_eq]; omega
 unfold Zij
 simp only [h, Zfs, Zb, if_pos sz]
 cases e : Za4 acc k with
 | some z =>
  refine ⟨z, ?_⟩
  have : Zgj acc k v = acc := by unfold Zgj; rw [e]; rfl
  rw [this]
  obtain ⟨h1, h2⟩ := List.getElem?_eq_some_iff.mp h
  rw [← h2, List.set_getElem_self h1]
 | none =>
  refine ⟨v, ?_⟩
  have e1 : Zlw acc (Za1 k) k v = acc ++ [(Za1 k, v)] := by unfold Zlw; rw [e]; rfl
  have e2 : Zgj acc k v = acc ++ [(Za1 k, v)] := by unfold Zgj; rw [e]; rfl
  rw [e1, e2]
theorem Zg9 {acc : List (D × D)} {k k' : List Int} {v : D} : (Za4 (Zgj acc k v) k').isSome = ((Za4 acc k').isSome || decide (k' = k)) := by
 unfold Zgj
 cases e : Za4 acc k with
 | some z =>
  rw [if_pos (by simp)]
  by_cases c : k' = k
  ·subst c; rw [e]; rfl
  ·simp [c]
 | none =>
  have := Zs3 (kvs := acc) (kd := Za1 k) (vd := v) (k := k) (k' := k') (Zfs k) e
  have e1 : Zlw acc (Za1 k) k v = acc ++ [(Za1 k, v)] := by unfold Zlw; rw [e]; rfl
  rw [e1] at this
  rw [if_neg (by simp)]; exact this
theorem Zqf (acc : List (D × D)) (k : List Int) (v : D) : (Zgj acc k v).length ≤ acc.length + 1 := by unfold Zgj; split <;> simp
theorem Zpx {acc : List (D × D)} {k : List Int} {v : D} {p : D × D} (h : p ∈ Zgj acc k v) : p ∈ acc ∨ p.1 = Za1 k := by
 unfold Zgj at h
 split at h
 ·exact .inl h
 ·rcases List.mem_append.mp h with h | h
  ·exact .inl h
  ·simp at h; subst h; exact .inr rfl
theorem Znn {acc : List (D × D)} {k : List Int} {v : D} {p : D × D} (h : p ∈ Zgj acc k v) : p ∈ acc ∨ p = (Za1 k, v) := by
 unfold Zgj at h
 split at h
 ·exact .inl h
 ·rcases List.mem_append.mp h with h | h
  ·exact .inl h
  ·simp at h; subst h; exact .inr rfl
noncomputable abbrev fb : SF := (Zaf (Zel (eDM Zij (Zac 1) (Zaa (Zac 3) (Zaa (Zac 2) Zae)))) Zaj)
theorem Zil {q : Nat} {r : D} : ∀ (rss : List (List Int)) (c : Int) (acc : List (D × D)) (H : HD) (z2 z3 : Option D), H[q]? = some (.dic acc false) -> acc.length + rss.length ≤ 100000 →
  ∃ (acc' : List (D × D)) (z2' z3' : Option D), Zf4 [] (gTp 2 (gCn (gNm 2) (gCn (gNm 3) gNl))) fb (Zex c (rss.map Za1)) [some r, some (.ref q), z2, z3] H = some (.nx, [some r, some (.ref q), z2', z3'], H.set q (.dic acc' false)) ∧
   (∀ p ∈ acc', p ∈ acc ∨ ∃ ls ∈ rss, p.1 = Za1 ls) ∧ (∀ k, (Za4 acc k).isSome = true -> (Za4 acc' k).isSome = true) ∧ (∀ ls ∈ rss, (Za4 acc' ls).isSome = true) ∧ acc'.length ≤ acc.length + rss.length ∧ (∀ p ∈ acc', p ∈ acc ∨ ∃ (i : Nat) (ls : List Int), rss[i]? = some ls ∧ p = (Za1 ls, .int (c + i)))
 | [], c, acc, H, z2, z3, hq, _ => by
  obtain ⟨h1, h2⟩ := List.getElem?_eq_some_iff.mp hq
  refine ⟨acc, z2, z3, ?_, fun p hp => .inl hp, fun _ h => h, by simp, by simp, fun p hp => .inl hp⟩
  rw [List.map_nil, Zex, Zf4, if_pos Zgp, ← h2, List.set_getElem_self h1]
 | ls :: rss, c, acc, H, z2, z3, hq, hl => by
  rw [List.map_cons, Zex, Zf4, if_pos Zgp]
  simp only [gTp, List.length_cons, List.length_nil, gCn, gNm, gNl, List.set, Zb, if_true, Nat.zero_add, Nat.reduceAdd]
  obtain ⟨z, es⟩ := Zmj (k := ls) (v := .int c) hq (by omega)
  have lt := (List.getElem?_eq_some_iff.mp hq).1
  have st : fb [some r, some (.ref q), some (.int c), some (Za1 ls)] H = some (.nx, [some r, some (.ref q), some (.int c), some (Za1 ls)], H.set q (.dic (Zgj acc ls (.int c)) false)) :=
   (Zbj (ex (dm (vr rfl) (by simp [Zm2, hq]) (ac (vr rfl) (ac (vr rfl) an)) es))).trans rfl
  rw [st]
  simp only [Zb]
  have al := Zqf acc ls (.int c)
  obtain ⟨acc', z2', z3', e, a1, a2, a3, a4, a5⟩ := Zil (q := q) (r := r) rss (c + 1) (Zgj acc ls (.int c)) (H.set q (.dic (Zgj acc ls (.int c)) false)) (some (.int c)) (some (Za1 ls)) (by rw [List.getElem?_set_self lt]) (by simp at hl ⊢; omega)
  refine ⟨acc', z2', z3', by rw [e, List.set_set], fun p hp => ?_, fun k hk => a2 k (by rw [Zg9, hk]; rfl), fun l hl' => ?_, by omega, fun p hp => ?_⟩
  ·rcases a1 p hp with h | ⟨l, h1, h2⟩
   ·rcases Zpx h with h | h
    ·exact .inl h
    ·exact .inr ⟨ls, by simp, h⟩
   ·exact .inr ⟨l, by simp [h1], h2⟩
  ·rcases List.mem_cons.mp hl' with rfl | hl'
   ·exact a2 _ (by rw [Zg9]; simp)
   ·exact a3 l hl'
  ·rcases a5 p hp with h | ⟨i, l, h1, h2⟩
   ·rcases Znn h with h | h
    ·exact .inl h
    ·exact .inr ⟨0, ls, rfl, by rw [h]; simp⟩
   ·exact .inr ⟨i + 1, l, by simpa using h1, by rw [h2]; simp; omega⟩
theorem Zty {rss : List (List Int)} {m : Int} (hu : ∀ ls ∈ rss, Up m 0 ls) (hl : rss.length ≤ 1000) (H : HD) :
  ∃ (kvs : List (D × D)) (H' : HD) (q : Nat), Zb2 [.tup (rss.map Za1)] H = some (.ref q, H') ∧ H'[q]? = some (.dic kvs false) ∧ DR rss [] kvs ∧ Fz H H' := by
 have s1 : Za0 1 eDN [some (.tup (rss.map Za1)), none, none, none] H = some (.nx, [some (.tup (rss.map Za1)), some (.ref H.length), none, none], H ++ [.dic [] false]) := rfl
 obtain ⟨kvs, z2, z3, e, a1, a2, a3, a4, a5⟩ := Zil (q := H.length) (r := .tup (rss.map Za1)) rss 0 [] (H ++ [.dic [] false]) none none (by simp) (by simp; omega)
 have e1 : Zft (Zte (Zaa (Zac 0) Zae)) (gTp 2 (gCn (gNm 2) (gCn (gNm 3) gNl))) fb [some (.tup (rss.map Za1)), some (.ref H.length), none, none] (H ++ [.dic [] false]) = some (.nx, [some (.tup (rss.map Za1)), some (.ref H.length), z2, z3], (H ++ [DO.dic [] false]).set H.length (DO.dic kvs false)) := by
  unfold Zft Zte
  rw [ac (vr rfl) an]
  exact e
 have es : (H ++ [DO.dic [] false]).set H.length (.dic kvs false) = H ++ [.dic kvs false] := by simp
 rw [es] at e1
 refine ⟨kvs, H ++ [.dic kvs false], H.length, ?_, by simp, ⟨fun p hp => ?_, fun ls hls _ => ?_, by simpa using a4, fun p hp => ?_⟩, Fz.app _⟩
 ·show ((Zbn [some (.tup (rss.map Za1)), none, none, none] H).bind _) = _
  unfold Zbn
  rw [Zbj s1, Zbj e1]
  rfl
 ·rcases a1 p hp with h | ⟨ls, h1, h2⟩
  ·simp at h
  ·obtain ⟨o1, o2⟩ := Ze8 [] ls 0 (hu ls h1) (by simp)
   exact ⟨ls, h1, o2, by rw [o1]; exact h2⟩
 ·obtain ⟨o1, o2⟩ := Ze8 [] ls 0 (hu ls hls) (by simp)
  rw [o1]; exact a3 ls hls
 ·rcases a5 p hp with h | ⟨i, ls, h1, h2⟩
  ·simp at h
  ·obtain ⟨o1, o2⟩ := Ze8 [] ls 0 (hu ls (List.mem_of_getElem? h1)) (by simp)
   exact ⟨i, ls, h1, o2, by rw [o1, h2]; simp⟩
noncomputable def hd0 : List Int -> Int
 | [] => 0
 | l :: _ => l
theorem act {b : Int} {t : Bool} {ls : List Int} (hb : 0 ≤ b) :
  (hd0 ls = -(if t = true then b + 1 else -(b + 1)) -> Zlx b t ls = false ∧ Zez b ls = ls.drop 1) ∧
  (hd0 ls ≠ -(if t = true then b + 1 else -(b + 1)) -> hd0 ls ≠ (if t = true then b + 1 else -(b + 1)) -> Zlx b t ls = false ∧ Zez b ls = ls) ∧
  (hd0 ls ≠ -(if t = true then b + 1 else -(b + 1)) -> hd0 ls = (if t = true then b + 1 else -(b + 1)) -> Zlx b t ls = true) := by
 cases ls with
 | nil =>
  refine ⟨fun h => ?_, fun _ _ => ⟨rfl, rfl⟩, fun _ h => ?_⟩
  ·simp only [hd0] at h; split at h <;> omega
  ·simp only [hd0] at h; split at h <;> omega
 | cons l r =>
  simp only [hd0, Zlx, Zez, List.drop_one, List.tail_cons]
  cases t with
  | true =>
   simp only [if_true]
   refine ⟨fun h => ?_, fun h1 h2 => ?_, fun h1 h2 => ?_⟩
   ·have e : Zbo l = b + 1 := by unfold Zbo; split <;> omega
    have g : decide (0 < l) = false := decide_eq_false (by omega)
    rw [g, if_pos e]; simp
   ·have e : Zbo l ≠ b + 1 := by unfold Zbo; split <;> omega
    rw [if_neg e, decide_eq_false e]; simp
   ·have e : Zbo l = b + 1 := by unfold Zbo; split <;> omega
    have g : decide (0 < l) = true := decide_eq_true (by omega)
    rw [g, decide_eq_true e]; rfl
  | false =>
   simp only [Bool.false_eq_true, if_false]
   refine ⟨fun h => ?_, fun h1 h2 => ?_, fun h1 h2 => ?_⟩
   ·have e : Zbo l = b + 1 := by unfold Zbo; split <;> omega
    have g : decide (0 < l) = true := decide_eq_true (by omega)
    rw [g, if_pos e]; simp
   ·have e : Zbo l ≠ b + 1 := by unfold Zbo; split <;> omega
    rw [if_neg e, decide_eq_false e]; simp
   ·have e : Zbo l = b + 1 := by unfold Zbo; split <;> omega
    have g : decide (0 < l) = false := decide_eq_false (by omega)
    rw [g, decide_eq_true e]; rfl
noncomputable abbrev bb : SF := (Zaf (Za0 6 (eIf (Zhq (Zac 5)) (eOp ixD (Zac 5) (eC (.int 0))) (eC (.int 0))))
 (Zaf (sIf (tOf (eOp eqD (Zac 6) (eUn Zm7 (Zac 3)))) (Zaf (Zel (eDM Zij (Zac 4) (Zaa (eSl (Zac 5) (Zgu (eC (.int 1))) Zhp) (Zaa (eOp Zfc (Zac 0) (Zac 5)) Zae))))
 Zaj) (Zaf (sIf (tOf (eOp neD (Zac 6) (Zac 3))) (Zaf (Zel (eDM Zij (Zac 4) (Zaa (Zac 5) (Zaa (eOp Zfc (Zac 0) (Zac 5)) Zae))))
 Zaj) Zaj)
 Zaj))
 Zaj))
theorem un {g : D -> HD -> Option (D × HD)} {f : EF} {σ : SD} {H H1 : HD} {d : D} {r : Option (D × HD)} (h1 : f σ H = some (d, H1)) (h2 : g d H1 = r) : eUn g f σ H = r := by
 unfold eUn; rw [h1]; exact h2
theorem bb_ok {p q : Nat} {kvs acc : List (D × D)} {b : Int} {t : Bool} {a1 a2 z6 : Option D} {ls : List Int} {H : HD} (hb : 0 ≤ b) (hp : H[p]? = some (.dic kvs true)) (hq : H[q]? = some (.dic acc false)) (hl : acc.length ≤ 100000) (hk : (Za4 kvs ls).isSome = true) :
  ∃ (v : D) (z6' : Option D), Za4 kvs ls = some v ∧ bb [some (.ref p), a1, a2, some (.int (if t = true then b + 1 else -(b + 1))), some (.ref q), some (Za1 ls), z6] H = some (.nx, [some (.ref p), a1, a2, some (.int (if t = true then b + 1 else -(b + 1))), some (.ref q), some (Za1 ls), z6'], H.set q (.dic (if Zlx b t ls = true then acc else Zgj acc (Zez b ls) v) false)) := by
 let R : Int := if t = true then b + 1 else -(b + 1)
 obtain ⟨v, ev⟩ := Option.isSome_iff_exists.mp hk
 have self : H.set q (.dic acc false) = H := by
  obtain ⟨h1, h2⟩ := List.getElem?_eq_some_iff.mp hq
  rw [← h2, List.set_getElem_self h1]
 have s1 : Za0 6 (eIf (Zhq (Zac 5)) (eOp ixD (Zac 5) (eC (.int 0))) (eC (.int 0))) [some (.ref p), a1, a2, some (.int R), some (.ref q), some (Za1 ls), z6] H = some (.nx, [some (.ref p), a1, a2, some (.int R), some (.ref q), some (Za1 ls), some (.int (hd0 ls))], H) := by
  refine Zkl (d := .int (hd0 ls)) ?_
  have tv : Zhq (Zac 5) [some (.ref p), a1, a2, some (.int R), some (.ref q), some (Za1 ls), z6] H = some (!ls.isEmpty, H) := by
   unfold Zhq; rw [vr (d := Za1 ls) rfl]; simp [Za1, Zpn]
  unfold eIf
  rw [tv]
  cases ls with
  | nil => rfl
  | cons l r =>
   have : atI ((l :: r).map D.int) 0 = some (.int l) := Zcc (j := 0) rfl
   show eOp ixD (Zac 5) (eC (.int 0)) [some (.ref p), a1, a2, some (.int R), some (.ref q), some (Za1 (l :: r)), z6] H = some (.int l, H)
   exact op (vr rfl) rfl (ixT this)
 let σ : SD := [some (.ref p), a1, a2, some (.int R), some (.ref q), some (Za1 ls), some (.int (hd0 ls))]
 have dg : eOp Zfc (Zac 0) (Zac 5) σ H = some (v, H) := by
  refine op (vr rfl) (vr rfl) ?_
  simp [Zfc, Ztd, hp, Zfs, ev]
 have t1 : tOf (eOp eqD (Zac 6) (eUn Zm7 (Zac 3))) σ H = some (hd0 ls == -R, H) := tof (op (vr rfl) (un (vr rfl) rfl) (Zpz _ _ _))
 have t2 : tOf (eOp neD (Zac 6) (Zac 3)) σ H = some (!(hd0 ls == R), H) := tof (op (vr rfl) (vr rfl) (Zz4 _ _ _))
 have id1 : Zm2 (.ref q) H = true := by simp [Zm2, hq]
 obtain ⟨A1, A2, A3⟩ := act (b := b) (t := t) (ls := ls) hb
 refine ⟨v, some (.int (hd0 ls)), ev, ?_⟩
 show bb [some (.ref p), a1, a2, some (.int R), some (.ref q), some (Za1 ls), z6] H = some (.nx, σ, _)
 unfold bb
 rw [Zbj s1]
 by_cases c1 : hd0 ls = -R
 ·obtain ⟨h1, h2⟩ := A1 c1
  have sd : slD (Za1 ls) (some 1) none H = some (Za1 (ls.drop 1), H) := by
   have := sllo (xs := ls.map D.int) (k := 1) (H := H)
   rw [← List.map_drop] at this
   exact this
  obtain ⟨z, es⟩ := Zmj (k := ls.drop 1) (v := v) hq hl
  rw [h1, if_neg (by simp), h2]
  refine (Zbj (σ1 := σ) (H1 := H.set q (.dic (Zgj acc (ls.drop 1) v) false)) ?_).trans rfl
  rw [Zk9 t1, if_pos (by simpa using c1)]
  exact (Zbj (ex (dm (vr rfl) id1 (ac (sl (vr rfl) (os rfl) on sd) (ac dg an)) es))).trans rfl
 ·by_cases c2 : hd0 ls = R
  ·rw [A3 c1 c2, if_pos rfl, self]
   refine (Zbj (σ1 := σ) (H1 := H) ?_).trans rfl
   rw [Zk9 t1, if_neg (by simpa using c1)]
   refine (Zbj (σ1 := σ) (H1 := H) ?_).trans rfl
   rw [Zk9 t2, if_neg (by simpa using c2)]
   rfl
  ·obtain ⟨h1, h2⟩ := A2 c1 c2
   obtain ⟨z, es⟩ := Zmj (k := ls) (v := v) hq hl
   rw [h1, if_neg (by simp), h2]
   refine (Zbj (σ1 := σ) (H1 := H.set q (.dic (Zgj acc ls v) false)) ?_).trans rfl
   rw [Zk9 t1, if_neg (by simpa using c1)]
   refine (Zbj (σ1 := σ) (H1 := H.set q (.dic (Zgj acc ls v) false)) ?_).trans rfl
   rw [Zk9 t2, if_pos (by simpa using c2)]
   exact (Zbj (ex (dm (vr rfl) id1 (ac (vr rfl) (ac dg an)) es))).trans rfl
theorem Zrc {p q : Nat} {kvs : List (D × D)} {b : Int} {t : Bool} {a1 a2 : Option D} (hb : 0 ≤ b) (hpq : p ≠ q) : ∀ (qs : List (List Int)) (acc : List (D × D)) (H : HD) (z5 z6 : Option D), H[p]? = some (.dic kvs true) -> H[q]? = some (.dic acc false) -> acc.length + qs.length ≤ 100000 -> (∀ ls ∈ qs, (Za4 kvs ls).isSome = true) →
  ∃ (acc' : List (D × D)) (z5' z6' : Option D), Zf4 [(p, .dic kvs true)] (gNm 5) bb (qs.map Za1) [some (.ref p), a1, a2, some (.int (if t = true then b + 1 else -(b + 1))), some (.ref q), z5, z6] H = some (.nx, [some (.ref p), a1, a2, some (.int (if t = true then b + 1 else -(b + 1))), some (.ref q), z5', z6'], H.set q (.dic acc' false)) ∧
   (∀ x ∈ acc', x ∈ acc ∨ ∃ ls ∈ qs, Zlx b t ls = false ∧ x.1 = Za1 (Zez b ls)) ∧ (∀ k, (Za4 acc k).isSome = true -> (Za4 acc' k).isSome = true) ∧ (∀ ls ∈ qs, Zlx b t ls = false -> (Za4 acc' (Zez b ls)).isSome = true) ∧ acc'.length ≤ acc.length + qs.length ∧ (∀ x ∈ acc', x ∈ acc ∨ ∃ ls ∈ qs, Zlx b t ls = false ∧ x.1 = Za1 (Zez b ls) ∧ Za4 kvs ls = some x.2)
 | [], acc, H, z5, z6, hp, hq, _, _ => by
  obtain ⟨h1, h2⟩ := List.getElem?_eq_some_iff.mp hq
  refine ⟨acc, z5, z6, ?_, fun p hp => .inl hp, fun _ h => h, by simp, by simp, fun p hp => .inl hp⟩
  rw [List.map_nil, Zf4, if_pos (by intro x hx; simp at hx; subst hx; exact hp), ← h2, List.set_getElem_self h1]
 | ls :: qs, acc, H, z5, z6, hp, hq, hl, hk => by
  have lt := (List.getElem?_eq_some_iff.mp hq).1
  rw [List.map_cons, Zf4, if_pos (by intro x hx; simp at hx; subst hx; exact hp)]
  simp only [gNm, List.set, Zb]
  obtain ⟨v, z6', ev, e1⟩ := bb_ok (t := t) (a1 := a1) (a2 := a2) (z6 := z6) (ls := ls) hb hp hq (by omega) (hk ls (by simp))
  rw [e1]
  simp only [Zb]
  let acc1 := if Zlx b t ls = true then acc else Zgj acc (Zez b ls) v
  have al : acc1.length ≤ acc.length + 1 := by
   show (if Zlx b t ls = true then acc else Zgj acc (Zez b ls) v).length ≤ _
   split
   ·omega
   ·exact Zqf _ _ _
  obtain ⟨acc', z5', z6'', e, a1', a2', a3', a4', a5'⟩ := Zrc (p := p) (q := q) (kvs := kvs) (t := t) (a1 := a1) (a2 := a2) hb hpq qs acc1 (H.set q (.dic acc1 false)) (some (Za1 ls)) z6' (by rw [List.getElem?_set_ne (Ne.symm hpq)]; exact hp) (by rw [List.getElem?_set_self lt]) (by simp at hl ⊢; omega) (fun l hl => hk l (by simp [hl]))
  have mono : ∀ k, (Za4 acc k).isSome = true -> (Za4 acc1 k).isSome = true := fun k hk => by
   show (Za4 (if Zlx b t ls = true then acc else Zgj acc (Zez b ls) v) k).isSome = true
   split
   ·exact hk
   ·rw [Zg9, hk]; rfl
  have lenF : acc'.length ≤ acc.length + (ls :: qs).length := by
   have e8 : (ls :: qs).length = qs.length + 1 := rfl
   have e9 : acc'.length ≤ acc1.length + qs.length := a4'
   omega
  refine ⟨acc', z5', z6'', by rw [e, List.set_set], fun x hx => ?_, fun k hk => a2' k (mono k hk), fun l hl' hh => ?_, lenF, fun x hx => ?_⟩
  ·rcases a1' x hx with h | ⟨l, h1, h2⟩
   ·cases hc : Zlx b t ls with
    | true =>
     have : acc1 = acc := if_pos hc
     rw [this] at h; exact .inl h
    | false =>
     have : acc1 = Zgj acc (Zez b ls) v := if_neg (by rw [hc]; simp)
     rw [this] at h
     rcases Zpx h with h | h
     ·exact .inl h
     ·exact .inr ⟨ls, by simp, hc, h⟩
   ·exact .inr ⟨l, by simp [h1], h2⟩
  ·rcases List.mem_cons.mp hl' with rfl | hl'
   ·refine a2' _ ?_
    have : acc1 = Zgj acc (Zez b l) v := if_neg (by rw [hh]; simp)
    rw [this, Zg9]; simp
   ·exact a3' l hl' hh
  ·rcases a5' x hx with h | ⟨l, h1, h2⟩
   ·cases hc : Zlx b t ls with
    | true =>
     have : acc1 = acc := if_pos hc
     rw [this] at h; exact .inl h
    | false =>
     have : acc1 = Zgj acc (Zez b ls) v := if_neg (by rw [hc]; simp)
     rw [this] at h
     rcases Znn h with h | h
     ·exact .inl h
     ·exact .inr ⟨ls, by simp, hc, by rw [h], by rw [h]; exact ev⟩
   ·exact .inr ⟨l, by simp [h1], h2⟩
theorem Zkz {kvs : List (D × D)} {k : List Int} (h : (Za4 kvs k).isSome = true) : ∃ p ∈ kvs, nk p.1 = some k := by
 unfold Za4 at h
 rw [Option.isSome_map] at h
 obtain ⟨p, e⟩ := Option.isSome_iff_exists.mp h
 exact ⟨p, List.mem_of_find?_eq_some e, by have := List.find?_some e; simpa using this⟩
theorem Zqw {kvs : List (D × D)} {k : List Int} {p : D × D} (hp : p ∈ kvs) (h : nk p.1 = some k) : (Za4 kvs k).isSome = true := by
 unfold Za4
 rw [Option.isSome_map, List.find?_isSome]
 exact ⟨p, hp, by simp [h]⟩
theorem Zs7 {kvs : List (D × D)} {k : List Int} {v : D} (h : Za4 kvs k = some v) : ∃ p ∈ kvs, nk p.1 = some k ∧ p.2 = v := by
 unfold Za4 at h
 obtain ⟨p, e, rfl⟩ := Zm h
 exact ⟨p, List.mem_of_find?_eq_some e, by have := List.find?_some e; simpa using this, rfl⟩
theorem Zqc {rss : List (List Int)} {bs : List Bool} : ∀ {kvs : List (D × D)}, (∀ p ∈ kvs, ∃ ls ∈ rss, kept bs ls = false ∧ p.1 = Za1 (rest bs ls)) -> ∃ qs : List (List Int), kvs.map (·.1) = qs.map Za1 ∧ ∀ q ∈ qs, ∃ ls ∈ rss, kept bs ls = false ∧ q = rest bs ls
 | [], _ => ⟨[], rfl, by simp⟩
 | p :: kvs, h => by
  obtain ⟨ls, h1, h2, h3⟩ := h p (by simp)
  obtain ⟨qs, e, g⟩ := Zqc (kvs := kvs) fun x hx => h x (by simp [hx])
  refine ⟨rest bs ls :: qs, by rw [List.map_cons, List.map_cons, e, h3], fun q hq => ?_⟩
  rcases List.mem_cons.mp hq with rfl | hq
  ·exact ⟨ls, h1, h2, rfl⟩
  ·exact g q hq
theorem Zxj {a b : List Int} (h : Za1 a = Za1 b) : a = b := by
 have := Zfs a
 rw [h, Zfs] at this
 exact (Option.some.inj this).symm
theorem Zlp {rss : List (List Int)} {m : Int} {bs : List Bool} {t : Bool} {kvs : List (D × D)} {fz : Bool} {p : Nat} {H : HD} (hu : ∀ ls ∈ rss, Up m 0 ls) (hl : rss.length ≤ 1000) (hp : H[p]? = some (.dic kvs fz)) (dr : DR rss bs kvs) :
  ∃ (kvs' : List (D × D)) (H' : HD) (q : Nat), Zax [.ref p, .int ((bs.length : Int) + 1), .bl t] H = some (.ref q, H') ∧ H'[q]? = some (.dic kvs' false) ∧ DR rss (bs ++ [t]) kvs' ∧ Fz H H' := by
 obtain ⟨qs, eq, gq⟩ := Zqc dr.key
 let b : Int := bs.length
 have hb : 0 ≤ b := by show (0 : Int) ≤ bs.length; omega
 let R : Int := if t = true then b + 1 else -(b + 1)
 have ltp := (List.getElem?_eq_some_iff.mp hp).1
 have s1 : Za0 3 (eIf (Zhq (Zac 2)) (Zac 1) (eUn Zm7 (Zac 1))) [some (.ref p), some (.int (b + 1)), some (.bl t), none, none, none, none] H = some (.nx, [some (.ref p), some (.int (b + 1)), some (.bl t), some (.int R), none, none, none], H) := by
  refine Zkl (d := .int R) ?_
  cases t <;> rfl
 have s2 : Za0 4 eDN [some (.ref p), some (.int (b + 1)), some (.bl t), some (.int R), none, none, none] H = some (.nx, [some (.ref p), some (.int (b + 1)), some (.bl t), some (.int R), some (.ref H.length), none, none], H ++ [.dic [] false]) := rfl
 let H1 : HD := (H ++ [DO.dic [] false]).set p (DO.dic kvs true)
 have hp0 : (H ++ [DO.dic [] false])[p]? = some (.dic kvs fz) := by rw [List.getElem?_append_left ltp]; exact hp
 have hp1 : H1[p]? = some (.dic kvs true) := by rw [List.getElem?_set_self (by simp; omega)]
 have hq1 : H1[H.length]? = some (.dic [] false) := by rw [List.getElem?_set_ne (by omega)]; simp
 have lq : qs.length = kvs.length := by have := congrArg List.length eq; simpa using this.symm
 have kk : ∀ ls ∈ qs, (Za4 kvs ls).isSome = true := fun ls hls => by
  have : Za1 ls ∈ kvs.map (·.1) := by rw [eq]; exact List.mem_map_of_mem hls
  obtain ⟨x, hx, ex⟩ := List.mem_map.mp this
  exact Zqw hx (by rw [ex, Zfs])
 have dl := dr.len
 obtain ⟨acc, z5, z6, e, a1, a2, a3, a4, a5⟩ := Zrc (p := p) (q := H.length) (kvs := kvs) (b := b) (t := t) (a1 := some (.int (b + 1))) (a2 := some (.bl t)) hb (by omega) qs [] H1 none none hp1 hq1 (by simp; omega) kk
 have e1 : Zft (iDic (Zac 0)) (gNm 5) bb [some (.ref p), some (.int (b + 1)), some (.bl t), some (.int R), some (.ref H.length), none, none] (H ++ [.dic [] false]) = some (.nx, [some (.ref p), some (.int (b + 1)), some (.bl t), some (.int R), some (.ref H.length), z5, z6], H1.set H.length (.dic acc false)) := by
  unfold Zft iDic
  rw [vr (d := .ref p) rfl]
  simp only [Zb, hp0]
  rw [eq]
  exact e
 have lt1 : H.length < H1.length := (List.getElem?_eq_some_iff.mp hq1).1
 refine ⟨acc, H1.set H.length (.dic acc false), H.length, ?_, by rw [List.getElem?_set_self lt1], ⟨fun x hx => ?_, fun ls hls hk => ?_, ?_, fun x hx => ?_⟩, ⟨fun mm o ho => ?_, by simp [H1]⟩⟩
 ·show ((Zby [some (.ref p), some (.int (b + 1)), some (.bl t), none, none, none, none] H).bind _) = _
  unfold Zby
  rw [Zbj s1, Zbj s2, Zbj e1]
  rfl
 ·rcases a1 x hx with h | ⟨q, h1, h2, h3⟩
  ·simp at h
  ·obtain ⟨ls, g1, g2, rfl⟩ := gq q h1
   obtain ⟨n1, n2⟩ := Zf9 bs t ls 0 (Int.le_refl _) (hu ls g1)
   refine ⟨ls, g1, ?_, by rw [n1]; exact h3⟩
   rw [n2, g2]; exact h2
 ·obtain ⟨n1, n2⟩ := Zf9 bs t ls 0 (Int.le_refl _) (hu ls hls)
  rw [n2, Bool.or_eq_false_iff] at hk
  obtain ⟨x, hx, ex⟩ := Zkz (dr.all ls hls hk.1)
  have hm : x.1 ∈ qs.map Za1 := by rw [← eq]; exact List.mem_map_of_mem hx
  obtain ⟨q, hq, eqq⟩ := List.mem_map.mp hm
  have : q = rest bs ls := by rw [← eqq, Zfs] at ex; exact Option.some.inj ex
  subst this
  rw [n1]
  exact a3 _ hq hk.2
 ·simp at a4; omega
 ·rcases a5 x hx with h | ⟨q, h1, h2, h3, h4⟩
  ·simp at h
  ·obtain ⟨y, y1, y2, y3⟩ := Zs7 h4
   obtain ⟨i, ls, g1, g2, rfl⟩ := dr.val y y1
   have : q = rest bs ls := by rw [Zfs] at y2; exact (Option.some.inj y2).symm
   subst this
   obtain ⟨n1, n2⟩ := Zf9 bs t ls 0 (Int.le_refl _) (hu ls (List.mem_of_getElem? g1))
   exact ⟨i, ls, g1, by rw [n2, g2]; exact h2, Prod.ext (by rw [n1]; exact h3) y3.symm⟩
 ·have lm : mm < H.length := (List.getElem?_eq_some_iff.mp ho).1
  rw [List.getElem?_set_ne (by omega)]
  by_cases c : p = mm
  ·subst c
   rw [hp] at ho
   cases ho
   cases fz with
   | true => exact .inl hp1
   | false => exact .inr ⟨kvs, rfl, hp1⟩
  ·refine .inl ?_
   show ((H ++ [DO.dic [] false]).set p (.dic kvs true))[mm]? = some o
   rw [List.getElem?_set_ne c, List.getElem?_append_left lm]; exact ho
theorem Zlr {rss : List (List Int)} {m : Int} {r pl : D} (hu : ∀ ls ∈ rss, Up m 0 ls) (hl : rss.length ≤ 1000) : ∀ (ts bs : List Bool) (kvs : List (D × D)) (p : Nat) (fz : Bool) (H : HD) (z3 z4 : Option D), H[p]? = some (.dic kvs fz) -> DR rss bs kvs →
  ∃ (kvs' : List (D × D)) (H' : HD) (q : Nat) (fz' : Bool) (z3' z4' : Option D), Zf4 [] (gTp 2 (gCn (gNm 3) (gCn (gNm 4) gNl))) (Zaf (Za0 2 (Zai 3 Zax (Zaa (Zac 2) (Zaa (Zac 3) (Zaa (Zac 4) Zae))))) Zaj) (Zex ((bs.length : Int) + 1) (ts.map .bl)) [some r, some pl, some (.ref p), z3, z4] H = some (.nx, [some r, some pl, some (.ref q), z3', z4'], H') ∧ H'[q]? = some (.dic kvs' fz') ∧ DR rss (bs ++ ts) kvs' ∧ Fz H H'
 | [], bs, kvs, p, fz, H, z3, z4, hp, dr => ⟨kvs, H, p, fz, z3, z4, by rw [List.map_nil, Zex, Zf4, if_pos Zgp], hp, by rw [List.append_nil]; exact dr, Fz.refl⟩
 | t :: ts, bs, kvs, p, fz, H, z3, z4, hp, dr => by
  rw [List.map_cons, Zex, Zf4, if_pos Zgp]
  simp only [gTp, List.length_cons, List.length_nil, gCn, gNm, gNl, List.set, Zb, if_true, Nat.zero_add, Nat.reduceAdd]
  obtain ⟨k1, H1, q1, e1, g1, d1, x1⟩ := Zlp (t := t) hu hl hp dr
  have st : (Zaf (Za0 2 (Zai 3 Zax (Zaa (Zac 2) (Zaa (Zac 3) (Zaa (Zac 4) Zae))))) Zaj) [some r, some pl, some (.ref p), some (.int ((bs.length : Int) + 1)), some (.bl t)] H = some (.nx, [some r, some pl, some (.ref q1), some (.int ((bs.length : Int) + 1)), some (.bl t)], H1) :=
   (Zbj (Zkl (ca (ac (vr rfl) (ac (vr rfl) (ac (vr rfl) an))) rfl e1))).trans rfl
  rw [st]
  simp only [Zb]
  obtain ⟨k2, H2, q2, fz2, z3', z4', e2, g2, d2, x2⟩ := Zlr (r := r) (pl := pl) hu hl ts (bs ++ [t]) k1 q1 false H1 (some (.int ((bs.length : Int) + 1))) (some (.bl t)) g1 d1
  have ec : (((bs ++ [t]).length : Nat) : Int) + 1 = (bs.length : Int) + 1 + 1 := by simp
  rw [ec] at e2
  refine ⟨k2, H2, q2, fz2, z3', z4', e2, g2, ?_, x1.trans x2⟩
  rw [List.append_assoc] at d2
  exact d2
theorem Zik {rss : List (List Int)} {m : Int} {bs : List Bool} (hu : ∀ ls ∈ rss, Up m 0 ls) (hl : rss.length ≤ 1000) (H : HD) :
  ∃ (kvs : List (D × D)) (H' : HD) (q : Nat) (fz : Bool), Zbk [.tup (rss.map Za1), .tup (bs.map .bl)] H = some (.ref q, H') ∧ H'[q]? = some (.dic kvs fz) ∧ DR rss bs kvs ∧ Fz H H' := by
 obtain ⟨k1, H1, q1, e1, g1, d1, x1⟩ := Zty hu hl H
 have s1 : Za0 2 (Zai 1 Zb2 (Zaa (Zac 0) Zae)) [some (.tup (rss.map Za1)), some (.tup (bs.map .bl)), none, none, none] H = some (.nx, [some (.tup (rss.map Za1)), some (.tup (bs.map .bl)), some (.ref q1), none, none], H1) := Zkl (ca (ac (vr rfl) an) rfl e1)
 obtain ⟨k2, H2, q2, fz2, z3', z4', e2, g2, d2, x2⟩ := Zlr (r := .tup (rss.map Za1)) (pl := .tup (bs.map .bl)) hu hl bs [] k1 q1 false H1 none none g1 d1
 have e3 : Zft (Zns (Zaa (Zac 1) Zae)) (gTp 2 (gCn (gNm 3) (gCn (gNm 4) gNl))) (Zaf (Za0 2 (Zai 3 Zax (Zaa (Zac 2) (Zaa (Zac 3) (Zaa (Zac 4) Zae))))) Zaj) [some (.tup (rss.map Za1)), some (.tup (bs.map .bl)), some (.ref q1), none, none] H1 = some (.nx, [some (.tup (rss.map Za1)), some (.tup (bs.map .bl)), some (.ref q2), z3', z4'], H2) := by
  unfold Zft Zns
  rw [ac (vr rfl) an]
  exact e2
 refine ⟨k2, H2, q2, fz2, ?_, g2, d2, x1.trans x2⟩
 show ((Za8 [some (.tup (rss.map Za1)), some (.tup (bs.map .bl)), none, none, none] H).bind _) = _
 unfold Za8
 rw [Zbj s1, Zbj e3]
 rfl
noncomputable def kS (d : D) : Bool := match d with
 | .str s => s == "some"
 | _ => false
noncomputable def Za6 (b : Bool) : D := if b then .str "some" else .str "all"
theorem Zk0 {d : D} (h : Ze2 d) : d = Za6 (kS d) := by
 rcases h with rfl | rfl
 ·have : kS (.str "all") = false := by decide
  rw [this]; rfl
 ·have : kS (.str "some") = true := by decide
  rw [this]; rfl
noncomputable def W (ks : List D) (rss : List (List Int)) : Nat -> List Bool -> Bool
 | 0, bs => rss.all (kept bs)
 | j + 1, bs =>
  let who := kS (ks.getD bs.length .non)
  if W ks rss j (bs ++ [false]) == who || W ks rss j (bs ++ [true]) == who then who else !who
theorem Zln {bs : List Bool} {t : Bool} {ls : List Int} {m : Int} (hu : Up m 0 ls) (h : kept bs ls = true) : kept (bs ++ [t]) ls = true := by
 rw [(Zf9 bs t ls 0 (Int.le_refl _) hu).2, h]; rfl
theorem Zqh {ks : List D} {rss : List (List Int)} {m : Int} (hu : ∀ ls ∈ rss, Up m 0 ls) : ∀ (j : Nat) (bs : List Bool), (∀ ls ∈ rss, kept bs ls = true) -> W ks rss j bs = true
 | 0, bs, h => by unfold W; rw [List.all_eq_true]; exact h
 | j + 1, bs, h => by
  have a := Zqh (ks := ks) hu j (bs ++ [false]) fun ls hl => Zln (hu ls hl) (h ls hl)
  have b := Zqh (ks := ks) hu j (bs ++ [true]) fun ls hl => Zln (hu ls hl) (h ls hl)
  unfold W
  rw [a, b]
  cases kS (ks.getD bs.length .non) <;> rfl
theorem Zkg {bs : List Bool} {t : Bool} {ls : List Int} {m : Int} (hu : Up m 0 ls) (h : kept bs ls = false ∧ rest bs ls = []) : kept (bs ++ [t]) ls = false ∧ rest (bs ++ [t]) ls = [] := by
 obtain ⟨n1, n2⟩ := Zf9 bs t ls 0 (Int.le_refl _) hu
 rw [n1, n2, h.1, h.2]; exact ⟨rfl, rfl⟩
theorem Zwv {ks : List D} {rss : List (List Int)} {m : Int} {ls : List Int} (hl : ls ∈ rss) (hu : Up m 0 ls) : ∀ (j : Nat) (bs : List Bool), kept bs ls = false ∧ rest bs ls = [] -> W ks rss j bs = false
 | 0, bs, h => by
  unfold W
  cases e : rss.all (kept bs) with
  | false => rfl
  | true => rw [List.all_eq_true.mp e ls hl] at h; cases h.1
 | j + 1, bs, h => by
  have a := Zwv (ks := ks) hl hu j (bs ++ [false]) (Zkg hu h)
  have b := Zwv (ks := ks) hl hu j (bs ++ [true]) (Zkg hu h)
  unfold W
  rw [a, b]
  cases kS (ks.getD bs.length .non) <;> rfl
theorem Zuf {m : Int} (bs : List Bool) (h : m ≤ bs.length) : ∀ (ls : List Int) (last : Int), Up m last ls -> rest bs ls = []
 | [], _, _ => rfl
 | l :: r, last, u => by
  have o : opn bs l = false := decide_eq_false (by have := u.2.1; omega)
  unfold rest
  rw [List.filter_cons_of_neg (by rw [o]; simp)]
  exact Zuf bs h r (Zbo l) u.2.2
theorem Zss (b : Bool) (H : HD) : Zbt [Za6 b] H = some (Za6 (!b), H) := by
 cases b
 ·have : ((("all" : Str)) == ("some" : Str)) = false := by decide
  simp [Zbt, Zcf, Za5, Za6, Zaf, Zbi, eIf, tOf, eOp, eqD, Zoj, Zac, eC, blD, this]
 ·simp [Zbt, Zcf, Za5, Za6, Zaf, Zbi, eIf, tOf, eOp, eqD, Zoj, Zac, eC, blD]
theorem Zpa (a b : Bool) (H : HD) : eqD (Za6 a) (Za6 b) H = some (.bl (a == b), H) := by
 have e1 : ((("all" : Str)) == ("some" : Str)) = false := by decide
 have e2 : ((("some" : Str)) == ("all" : Str)) = false := by decide
 cases a <;> cases b <;> simp [eqD, Zoj, Za6, e1, e2]
noncomputable def Zau (bs : List Bool) : D := .tup (bs.map .bl)
noncomputable abbrev wb (F : FF) : SF := (Zaf (sIf (tOf (eOp eqD (Zai 3 F (Zaa (Zac 0) (Zaa (Zai 3 Zax (Zaa (Zac 1) (Zaa (eOp Zb4 (Zac 2) (eC (.int 1))) (Zaa (Zac 4) Zae)))) (Zaa (eOp Zb4 (Zac 2) (eC (.int 1))) Zae)))) (Zac 3))) (Zaf (Zbi (Zac 3))
 Zaj) Zaj)
 Zaj)
theorem Zqs {ks : List D} {rss : List (List Int)} (hk : ∀ d ∈ ks, Ze2 d) (hu : ∀ ls ∈ rss, Up ks.length 0 ls) (hl : rss.length ≤ 1000) : ∀ (j f : Nat) (bs : List Bool) (kvs : List (D × D)) (p : Nat) (fz : Bool) (H : HD), j < f -> bs.length + j = ks.length -> H[p]? = some (.dic kvs fz) -> DR rss bs kvs →
  ∃ H', Zv2 3 5 Zap f [.tup ks, .ref p, .int bs.length] H = some (Za6 (W ks rss j bs), H') ∧ Fz H H'
 | j, 0, bs, kvs, p, fz, H, hf, _, _, _ => by omega
 | j, f + 1, bs, kvs, p, fz, H, hf, hj, hp, dr => by
  show ∃ H', ((Zap (Zv2 3 5 Zap f) [some (.tup ks), some (.ref p), some (.int bs.length), none, none] H).bind _) = _ ∧ _
  generalize hF : Zv2 3 5 Zap f = F
  let σ0 : SD := [some (.tup ks), some (.ref p), some (.int bs.length), none, none]
  have t1 : tOf (eOp dinD (Zfk Zae) (Zac 1)) σ0 H = some ((Za4 kvs []).isSome, H) := by
   refine tof (op (tp (ds := []) an (by simp)) (vr rfl) ?_)
   simp [dinD, Ztd, hp, nk, Zkb]
  have t2 : tOf (eOp eqD (eCB Zos (Zaa (Zac 1) Zae)) (eC (.int 0))) σ0 H = some ((kvs.length : Int) == 0, H) := by
   refine tof (op (cb (ac (vr rfl) an) (r := some (.int kvs.length, H)) ?_) rfl (Zpz _ _ _))
   simp [Zos, Ztd, hp]
  cases c1 : (Za4 kvs []).isSome with
  | true =>
   rw [c1] at t1
   obtain ⟨x, hx, ex⟩ := Zkz c1
   obtain ⟨ls, g1, g2, g3⟩ := dr.key x hx
   have r0 : rest bs ls = [] := by rw [g3, Zfs] at ex; exact Option.some.inj ex
   refine ⟨H, ?_, Fz.refl⟩
   unfold Zap
   rw [hit (σ1 := σ0) t1 (rt rfl), Zwv g1 (hu ls g1) j bs ⟨g2, r0⟩]
   rfl
  | false =>
   rw [c1] at t1
   by_cases c2 : kvs = []
   ·subst c2
    have al : ∀ ls ∈ rss, kept bs ls = true := fun ls h => by
     cases e : kept bs ls with
     | true => rfl
     | false => have := dr.all ls h e; simp [Za4] at this
    refine ⟨H, ?_, Fz.refl⟩
    unfold Zap
    rw [skip t1, hit (σ1 := σ0) t2 (rt rfl), Zqh hu j bs al]
    rfl
   ·have t2' : tOf (eOp eqD (eCB Zos (Zaa (Zac 1) Zae)) (eC (.int 0))) σ0 H = some (false, H) := by
     rw [t2]
     have : ((kvs.length : Int) == 0) = false := by
      have := List.length_pos_iff.mpr c2
      simp; exact c2
     rw [this]
    -- a name is left
    match j, hj, hf with
    | 0, hj, hf =>
     exfalso
     obtain ⟨x, kr, e⟩ := List.exists_cons_of_ne_nil c2
     obtain ⟨ls, g1, g2, g3⟩ := dr.key x (by rw [e]; simp)
     have r0 := Zuf bs (m := ks.length) (by omega) ls 0 (hu ls g1)
     have := dr.all ls g1 g2
     rw [r0, c1] at this; cases this
    | j + 1, hj, hf =>
     have lt : bs.length < ks.length := by omega
     let who : Bool := kS (ks.getD bs.length .non)
     have gw : ks[bs.length]? = some (Za6 who) := by
      have e0 : ks.getD bs.length .non = ks[bs.length] := by simp [List.getD, lt]
      have := Zk0 (hk ks[bs.length] (List.getElem_mem lt))
      rw [List.getElem?_eq_getElem lt, this]
      show some (Za6 (kS ks[bs.length])) = some (Za6 (kS (ks.getD bs.length .non)))
      rw [e0]
     have s3 : Za0 3 (eOp ixD (Zac 0) (Zac 2)) σ0 H = some (.nx, [some (.tup ks), some (.ref p), some (.int bs.length), some (Za6 who), none], H) := Zkl (op (vr rfl) (vr rfl) (ixT (Zcc gw)))
     -- one pick
     have one : ∀ (t : Bool) (z4 : Option D) (H0 : HD) (fz0 : Bool), H0[p]? = some (.dic kvs fz0) -> ∃ H1, tOf (eOp eqD (Zai 3 F (Zaa (Zac 0) (Zaa (Zai 3 Zax (Zaa (Zac 1) (Zaa (eOp Zb4 (Zac 2) (eC (.int 1))) (Zaa (Zac 4) Zae)))) (Zaa (eOp Zb4 (Zac 2) (eC (.int 1))) Zae)))) (Zac 3)) [some (.tup ks), some (.ref p), some (.int bs.length), some (Za6 who), some (.bl t)] H0 = some (W ks rss j (bs ++ [t]) == who, H1) ∧ Fz H0 H1 := by
      intro t z4 H0 fz0 h0
      obtain ⟨k1, H1, q1, e1, g1, d1, x1⟩ := Zlp (t := t) hu hl h0 dr
      obtain ⟨H2, e2, x2⟩ := Zqs hk hu hl j f (bs ++ [t]) k1 q1 false H1 (by omega) (by simp; omega) g1 d1
      have el : (((bs ++ [t]).length : Nat) : Int) = (bs.length : Int) + 1 := by simp
      rw [el, hF] at e2
      refine ⟨H2, tof (op (ca (ac (vr rfl) (ac (ca (ac (vr rfl) (ac (op (vr rfl) rfl (adI _ _ _)) (ac (vr rfl) an))) rfl e1) (ac (op (vr rfl) rfl (adI _ _ _)) an))) rfl e2) (vr rfl) (Zpa _ _ _)), x1.trans x2⟩
     obtain ⟨H1, o1, x1⟩ := one false none H fz hp
     obtain ⟨fz1, h1⟩ := x1.dic hp
     obtain ⟨H2, o2, x2⟩ := one true none H1 fz1 h1
     have Wd : W ks rss (j + 1) bs = (if W ks rss j (bs ++ [false]) == who || W ks rss j (bs ++ [true]) == who then who else !who) := by
      conv => lhs; unfold W
     have it : ∀ Hx, iSq (eC k_TRUTHS) [some (.tup ks), some (.ref p), some (.int bs.length), some (Za6 who), none] Hx = some (([.bl false, .bl true], []), Hx) := fun _ => rfl
     have st : ∀ (t b : Bool) (Ha Hb : HD), tOf (eOp eqD (Zai 3 F (Zaa (Zac 0) (Zaa (Zai 3 Zax (Zaa (Zac 1) (Zaa (eOp Zb4 (Zac 2) (eC (.int 1))) (Zaa (Zac 4) Zae)))) (Zaa (eOp Zb4 (Zac 2) (eC (.int 1))) Zae)))) (Zac 3)) [some (.tup ks), some (.ref p), some (.int bs.length), some (Za6 who), some (.bl t)] Ha = some (b, Hb) →
       wb F [some (.tup ks), some (.ref p), some (.int bs.length), some (Za6 who), some (.bl t)] Ha = some (if b = true then .rt (Za6 who) else .nx, [some (.tup ks), some (.ref p), some (.int bs.length), some (Za6 who), some (.bl t)], Hb) := by
      intro t b Ha Hb h
      cases b with
      | true => exact hit h (rt (vr rfl))
      | false => exact (skip h).trans rfl
     unfold Zap
     rw [skip t1, skip t2', Zbj s3]
     cases w1 : (W ks rss j (bs ++ [false]) == who) with
     | true =>
      rw [w1] at o1
      refine ⟨H1, ?_, x1⟩
      have lp : Zft (iSq (eC k_TRUTHS)) (gNm 4) (wb F) [some (.tup ks), some (.ref p), some (.int bs.length), some (Za6 who), none] H = some (.rt (Za6 who), [some (.tup ks), some (.ref p), some (.int bs.length), some (Za6 who), some (.bl false)], H1) := by
       unfold Zft
       rw [it]
       simp only [Zb]
       rw [Zf4, if_pos Zgp]
       simp only [gNm, List.set, Zb]
       rw [st _ _ _ _ o1]
       rfl
      rw [Zh0 lp, Wd, w1]
      rfl
     | false =>
      rw [w1] at o1
      have lp : Zft (iSq (eC k_TRUTHS)) (gNm 4) (wb F) [some (.tup ks), some (.ref p), some (.int bs.length), some (Za6 who), none] H = some (if (W ks rss j (bs ++ [true]) == who) = true then .rt (Za6 who) else .nx, [some (.tup ks), some (.ref p), some (.int bs.length), some (Za6 who), some (.bl true)], H2) := by
       unfold Zft
       rw [it]
       simp only [Zb]
       rw [Zf4, if_pos Zgp]
       simp only [gNm, List.set, Zb]
       rw [st _ _ _ _ o1]
       simp only [Zb, Bool.false_eq_true, if_false]
       rw [Zf4, if_pos Zgp]
       simp only [gNm, List.set, Zb]
       rw [st _ _ _ _ o2]
       cases (W ks rss j (bs ++ [true]) == who) with
       | true => rfl
       | false =>
        simp only [Zb, Bool.false_eq_true, if_false]
        rw [Zf4, if_pos Zgp]
      refine ⟨H2, ?_, x1.trans x2⟩
      cases w2 : (W ks rss j (bs ++ [true]) == who) with
      | true =>
       rw [w2, if_pos rfl] at lp
       rw [Zh0 lp, Wd, w1, w2]
       rfl
      | false =>
       rw [w2, if_neg (by simp)] at lp
       have eo : Zai 1 Zbt (Zaa (Zac 3) Zae) [some (.tup ks), some (.ref p), some (.int bs.length), some (Za6 who), some (.bl true)] H2 = some (Za6 (!who), H2) := ca (ac (vr rfl) an) rfl (Zss who H2)
       rw [Zbj lp, Zh0 (rt eo), Wd, w1, w2]
       rfl
theorem Zq1 {ks : List D} {rss : List (List Int)} {bs : List Bool} {j : Nat} (hk : ∀ d ∈ ks, Ze2 d) (hu : ∀ ls ∈ rss, Up ks.length 0 ls) (hl : rss.length ≤ 1000) (h8 : ks.length ≤ 8) (hj : bs.length + j = ks.length) (H : HD) :
  ∃ H', Zfm [.tup [.tup ks, .tup (rss.map Za1)], .tup (bs.map .bl)] H = some (Za6 (W ks rss j bs), H') ∧ Fz H H' := by
 obtain ⟨kvs, H1, q, fz, e1, g1, d1, x1⟩ := Zik (bs := bs) hu hl H
 obtain ⟨H2, e2, x2⟩ := Zqs hk hu hl j 10 bs kvs q fz H1 (by omega) hj g1 d1
 refine ⟨H2, ?_, x1.trans x2⟩
 have at0 : atI [D.tup ks, D.tup (rss.map Za1)] 0 = some (.tup ks) := Zcc (j := 0) rfl
 have at1 : atI [D.tup ks, D.tup (rss.map Za1)] 1 = some (.tup (rss.map Za1)) := Zcc (j := 1) rfl
 show ((Zfz [some (.tup [.tup ks, .tup (rss.map Za1)]), some (.tup (bs.map .bl))] H).bind _) = _
 unfold Zfz
 have e2' : Zb1 [.tup ks, .ref q, .int bs.length] H1 = some (Za6 (W ks rss j bs), H2) := e2
 have ec : Zai 3 Zb1 (Zaa (eOp ixD (Zac 0) (eC (.int 0))) (Zaa (Zai 2 Zbk (Zaa (eOp ixD (Zac 0) (eC (.int 1))) (Zaa (Zac 1) Zae))) (Zaa (eCB Zb5 (Zaa (Zac 1) Zae)) Zae))) [some (.tup [.tup ks, .tup (rss.map Za1)]), some (.tup (bs.map .bl))] H = some (Za6 (W ks rss j bs), H2) :=
  ca (ac (op (vr rfl) rfl (ixT at0)) (ac (ca (ac (op (vr rfl) rfl (ixT at1)) (ac (vr rfl) an)) rfl e1) (ac (cb (ac (vr rfl) an) (lenB bs _)) an))) rfl e2'
 rw [Zh0 (rt ec)]
 rfl
theorem at0 (a b : D) : atI [a, b] 0 = some a := Zcc (j := 0) rfl
theorem at1 (a b : D) : atI [a, b] 1 = some b := Zcc (j := 1) rfl
end K08
namespace K08
open PySem L2 DL LH WP
noncomputable def Zal (n : Nat) (H : HD) : Prop := ∃ a b, H[n]? = some (.lst [.int a, .int b])
theorem Fz.fm {H H' : HD} (x : Fz H H') : Fm [] H H' := ⟨fun m o _ h => x.old m o h, x.len⟩
theorem Zal.fm {n : Nat} {S : List Nat} {H H' : HD} (f : Zal n H) (x : Fm S H H') (h : n ∉ S) : Zal n H' := by
 obtain ⟨a, b, e⟩ := f; exact ⟨a, b, x.lst h e⟩
structure Cl (ks : List D) (rss : List (List Int)) : Prop where
 hk : ∀ d ∈ ks, Ze2 d
 hu : ∀ ls ∈ rss, Up ks.length 0 ls
 hl : rss.length ≤ 1000
 h8 : ks.length ≤ 8
noncomputable def Zay (ks : List D) (rss : List (List Int)) : D := .tup [.tup ks, .tup (rss.map Za1)]
variable {H : HD} {Q : D -> HD -> Prop}
theorem w_cl0 {ks : List D} {rss : List (List Int)} (q : Q (.tup ks) H) : wE (ixD (Zay ks rss) (.int 0) H) Q := ⟨_, _, ixT (at0 _ _), q⟩
theorem w_cl1 {ks : List D} {rss : List (List Int)} (q : Q (.tup (rss.map Za1)) H) : wE (ixD (Zay ks rss) (.int 1) H) Q := ⟨_, _, ixT (at1 _ _), q⟩
theorem Zuj {ns : List Int} {k : Int} (h0 : 0 ≤ k) (h1 : k < 1000) (q : ∀ n H', Zal n H' -> H.length ≤ n -> Fm [] H H' -> Q (.ref n) H') : wE (Zcb [.fl (ns.map .int), .int k] H) Q := by
 obtain ⟨a, b, e⟩ := Zvw ns k h0 h1 H
 exact ⟨_, _, e, q _ _ ⟨a, b, last⟩ (Nat.le_refl _) (Fm.app _)⟩
theorem Zbz {n : Nat} {k : Int} (hf : Zal n H) (h0 : 0 < k) (h1 : k < 1073741824) (q : ∀ r H', 0 ≤ r -> r < k -> Zal n H' -> Fm [n] H H' -> Q (.int r) H') : wE (Zah [.ref n, .int k] H) Q := by
 obtain ⟨r, H', r0, r1, e, x, _⟩ := Zrd (n := n) (k := k) hf h0 h1
 exact ⟨_, _, e, q r H' r0 r1 x.feed x.fm⟩
theorem Zy5 {m : Int} (hm : m ≤ 8) {ls : List Int} (h : Up m 0 ls) : RowIn m (Za1 ls) := by
 have b : ∀ (ls : List Int) (last : Int), 0 ≤ last -> Up m last ls -> (∀ l ∈ ls, l ≠ 0 ∧ -10 ≤ l ∧ l ≤ 10) ∧ (ls.length : Int) ≤ m - last ∨ (ls = []) := by
  intro ls
  induction ls with
  | nil => intro _ _ _; exact .inr rfl
  | cons l r ih =>
   intro last h0 u
   obtain ⟨u1, u2, u3⟩ := u
   have ha : l ≠ 0 ∧ -10 ≤ l ∧ l ≤ 10 := by unfold Zbo at u1 u2; split at u1 <;> omega
   rcases ih (Zbo l) (by omega) u3 with ⟨i1, i2⟩ | rfl
   ·refine .inl ⟨fun x hx => ?_, ?_⟩
    ·rcases List.mem_cons.mp hx with rfl | hx
     ·exact ha
     ·exact i1 x hx
    ·rw [List.length_cons]; omega
   ·refine .inl ⟨fun x hx => ?_, ?_⟩
    ·simp at hx; subst hx; exact ha
    ·simp; omega
 refine ⟨ls, rfl, ?_, ?_, h⟩
 ·rcases b ls 0 (Int.le_refl _) h with ⟨i1, _⟩ | rfl
  ·exact i1
  ·simp
 ·rcases b ls 0 (Int.le_refl _) h with ⟨_, i2⟩ | rfl
  ·omega
  ·simp
noncomputable def FW (ks : List D) (rss : List (List Int)) (bs : List Bool) : D := Za6 (W ks rss (ks.length - bs.length) bs)
theorem Zzw {bs : List Bool} {H : HD} {Q : D -> HD -> Prop} (q : Q (.int bs.length) H) : wE (Zb5 [Zau bs] H) Q := ⟨_, _, lenB bs H, q⟩
theorem Yap {bs : List Bool} {t : Bool} {H : HD} {Q : D -> HD -> Prop} (h : bs.length ≤ 1000) (q : Q (Zau (bs ++ [t])) H) : wE (Zb4 (Zau bs) (.tup [.bl t]) H) Q :=
 ⟨Zau (bs ++ [t]), H, by unfold Zau; rw [adT (by simp; omega), List.map_append]; rfl, q⟩
theorem Zjv {ks : List D} (hk : ∀ d ∈ ks, Ze2 d) {i : Nat} (h : i < ks.length) : ks[i]? = some (Za6 (kS (ks.getD i .non))) := by
 have e0 : ks.getD i .non = ks[i] := by simp [List.getD, h]
 have := Zk0 (hk ks[i] (List.getElem_mem h))
 rw [List.getElem?_eq_getElem h, e0]
 exact congrArg some this
theorem Yac {ks : List D} {rss : List (List Int)} {bs : List Bool} {b : Bool} {H : HD} {Q : D -> HD -> Prop} (q : Q (.bl (W ks rss (ks.length - bs.length) bs == b)) H) : wE (eqD (FW ks rss bs) (Za6 b) H) Q := ⟨_, _, Zpa _ _ _, q⟩
variable {H : HD} {Q : D -> HD -> Prop}
theorem Zm4 {ks : List D} {rss : List (List Int)} {bs : List Bool} (c : Cl ks rss) (hb : bs.length ≤ ks.length) {H : HD} {Q : D -> HD -> Prop}
  (q : ∀ H', Fm [] H H' -> Q (FW ks rss bs) H') : wE (Zfm [Zay ks rss, Zau bs] H) Q := by
 obtain ⟨H1, e1, x1⟩ := Zq1 (bs := bs) (j := ks.length - bs.length) c.hk c.hu c.hl c.h8 (by omega) H
 exact ⟨_, _, e1, q H1 x1.fm⟩
local macro_rules | `(tactic| fail $s:str) => do
 if s.getString == "g" then `(tactic| (repeat fail "go")) else if s.getString == "i" then `(tactic| ((repeat fail "go"); (refine WP.w_if ?_; (repeat fail "go")))) else Lean.Macro.throwUnsupported
local macro_rules | `(tactic| fail $s:str) => do
 if s.getString == "lk" then `(tactic| first | assumption | with_reducible exact WP.last | (with_reducible refine WP.appL ?_; fail "lk"))
 else if s.getString == "go" then do
  let a0 ← `(by with_unfolding_all rfl)
  let a1 ← `(?_)
  let a2 ← `(by first | (simp; done) | (simp; omega) | omega)
  let a3 ← `(by decide)
  let a4 ← `(by with_unfolding_all first | exact (rfl : _ = true) | exact (rfl : _ = false))
  let a5 ← `(by fail "lk")
  let a6 ← `(by with_unfolding_all exact rfl)
  let t ← ([`WP.w_var].map (·, [a0, a1]) ++ [`WP.w_c, `WP.w_seq, `WP.w_kn, `WP.w_set, `WP.w_op, `WP.w_acons, `WP.w_anil, `WP.w_call, `WP.w_cb, `WP.w_tof, `WP.w_bl, `WP.w_bt, `WP.w_bf, `WP.w_bnt, `WP.w_bnf, `WP.w_ret, `WP.w_fr, `WP.w_kr, `WP.w_snil, `WP.w_expr, `WP.w_for, `WP.w_or, `WP.w_an, `WP.w_no, `WP.w_ttru, `WP.w_eif, `WP.w_eno, `WP.w_ean, `WP.w_eorr, `WP.w_un, `WP.w_ch, `WP.w_int, `WP.w_tup, `WP.w_lst, `WP.w_lm, `WP.w_tm, `WP.w_dm, `WP.w_dn, `WP.w_on, `WP.w_os, `WP.w_sl, `WP.w_rv, `WP.w_lc, `WP.w_asg, `WP.w_gnm, `WP.w_gsb, `WP.w_gcn, `WP.w_gnl].map (·, [a1]) ++ [`WP.w_n, `WP.w_gtp, `WP.w_ixT, `WP.w_isN, `WP.w_isnN, `WP.w_isBl, `WP.w_isnBl].map (·, [a0, a1]) ++ [`WP.w_sz, `WP.w_addT].map (·, [a2, a1]) ++ [`WP.w_mod].map (·, [a3, a1]) ++ [`WP.w_fdiv, `WP.w_mulL, `WP.w_mulR].map (·, [a3, a3, a1]) ++ [`WP.w_eqI', `WP.w_neI', `WP.w_eqS', `WP.w_neS'].map (·, [a4, a1]) ++ [`WP.w_lenR, `WP.w_tupR, `WP.w_itR].map (·, [a5, a1]) ++ [`WP.w_ixR].map (·, [a5, a0, a1]) ++ [`WP.w_isi'].map (·, [a0, a0, a4, a1]) ++ [`WP.w_addI, `WP.w_subI, `WP.w_lt, `WP.w_le, `WP.w_gt, `WP.w_ge, `WP.w_slhi, `WP.w_sllo, `WP.w_sllo1, `WP.w_neg, `WP.w_eqI, `WP.w_neI, `WP.w_eqS, `WP.w_neS, `WP.w_lenT, `WP.w_lenF, `WP.w_abs, `WP.w_intI, `WP.w_intB, `WP.w_max, `WP.w_min, `WP.w_truB, `WP.w_truT, `WP.w_truN, `WP.w_isq, `WP.w_itT, `WP.w_itF, `WP.w_ir1, `WP.w_ir2, `WP.w_ir3, `WP.w_idic, `WP.w_enum, `WP.w_enum1, `WP.w_zip, `WP.w_yes, `WP.w_retn, `WP.w_fn, `WP.w_agn, `WP.w_agr, `WP.w_kb, `WP.w_kc, `WP.w_agb, `WP.w_agc, `WP.w_brk, `WP.w_cnt].map (·, [a1]) ++ [`WP.w_bT, `WP.w_bF].map (·, [a6, a1]) : List (Lean.Name × List Lean.Term)).foldrM (fun p (r : Lean.TSyntax `tactic) => `(tactic| first | with_reducible refine $(Lean.Syntax.mkApp (Lean.mkIdent p.1) p.2.toArray) | $r:tactic)) (← `(tactic| fail "no"))
  return t
 else Lean.Macro.throwUnsupported
local macro_rules | `(tactic| fail $s:str) => do
 if s.getString == "go" then `(tactic| first | with_reducible refine Zzw ?_ | with_reducible refine Yap (by omega) ?_ | with_reducible refine w_cl0 ?_ | with_reducible refine w_cl1 ?_)
 else Lean.Macro.throwUnsupported
variable {H : HD} {Q : D -> HD -> Prop}
theorem Zno {m : Int} : ∀ (ls : List Int) (last : Int), 0 ≤ last -> Up m last ls -> ∀ l ∈ ls, last < Zbo l ∧ Zbo l ≤ m
 | [], _, _, _, _, h => by cases h
 | l :: r, last, h0, u, x, h => by
  obtain ⟨u1, u2, u3⟩ := u
  rcases List.mem_cons.mp h with rfl | h
  ·exact ⟨u1, u2⟩
  ·have := Zno r (Zbo l) (by omega) u3 x h; omega
theorem Cl.len9 {ks : List D} {rss : List (List Int)} (c : Cl ks rss) {ls : List Int} (h : ls ∈ rss) : ls.length ≤ 9 := by
 obtain ⟨ls', e, _, l9, _⟩ := Zy5 (by have := c.h8; omega) (c.hu ls h)
 have : ls = ls' := Zxj e
 rw [this]; exact l9
theorem Cl.pos {ks : List D} {rss : List (List Int)} (c : Cl ks rss) {ls : List Int} (h : ls ∈ rss) : ∀ l ∈ ls, 0 < Zbo l := fun l hl => (Zno ls 0 (Int.le_refl _) (c.hu ls h) l hl).1
theorem Zz0 {a b : Bool} (q : Q (.bl (a == b)) H) : wE (eqD (.bl a) (.bl b) H) Q := Zzg (.bl a) (.bl b) (by omega) (by omega) (by simpa [PyData.eqv] using q)
theorem Zru (ls : List Int) : Fines (ls.map .int) (ls.map .int) 0 := by
 induction ls with
 | nil => exact .nil
 | cons l r ih => exact .cons (.int l) ih
theorem Ztv (ls : List Int) : Fine (Za1 ls) (.tuple (ls.map .int)) 1 := Fine.tup (Zru ls)
theorem Zpw (rss : List (List Int)) : Fines (rss.map Za1) (rss.map fun ls => .tuple (ls.map .int)) 1 := by
 induction rss with
 | nil => exact .nil
 | cons l r ih => exact .cons (Ztv l) ih
theorem Zf6 (bs : List Bool) : Fines (bs.map .bl) (bs.map .bool) 0 := by
 induction bs with
 | nil => exact .nil
 | cons l r ih => exact .cons (.bl l) ih
theorem Zal.lt {n : Nat} {H : HD} (f : Zal n H) : n < H.length := by obtain ⟨a, b, e⟩ := f; exact (List.getElem?_eq_some_iff.mp e).1
noncomputable def gp (ks : List D) (rss : List (List Int)) (bs : List Bool) : List Bool :=
 if bs.length = ks.length then [] else [false, true].filter fun t => W ks rss (ks.length - (bs ++ [t]).length) (bs ++ [t]) == kS (ks.getD bs.length .non)
theorem Zya {ks : List D} {rss : List (List Int)} {bs : List Bool} (c : Cl ks rss) (hb : bs.length ≤ ks.length) {H : HD} {Q : D -> HD -> Prop}
  (q : ∀ p H', H'[p]? = some (.lst ((gp ks rss bs).map .bl)) -> H.length ≤ p -> Fm [] H H' -> Q (.ref p) H') : wE (Zd5 [Zay ks rss, Zau bs] H) Q := by
 have h8 := c.h8
 refine Zbu rfl ?_
 show wS (Zcg [some (Zay ks rss), some (Zau bs), none] H) _
 unfold Zcg
 fail "i"
 refine ⟨fun h => ?_, fun h => ?_⟩
 ·fail "g"
  refine q _ _ ?_ (Nat.le_refl _) (Fm.app _)
  have h' : bs.length = ks.length := by simp at h; omega
  rw [gp, if_pos h']; exact last
 ·have h' : bs.length ≠ ks.length := by simp at h; omega
  fail "g"
  refine w_ixT (Zcc (Zjv c.hk (by omega))) ?_
  fail "g"
  rw [k_TRUTHS]
  fail "g"
  refine Zea (fun d => match d with | .bl t => W ks rss (ks.length - (bs ++ [t]).length) (bs ++ [t]) == kS (ks.getD bs.length .non) | _ => false) (fun H' => Fm [] H H') (fun _ _ => Zko) _ (fun x hx H1 j => ?_) _ Fm.refl fun H1 j => ?_
  ·have : ∃ t, x = .bl t := by simp at hx; rcases hx with rfl | rfl <;> exact ⟨_, rfl⟩
   obtain ⟨t, rfl⟩ := this
   fail "g"
   refine Zm4 c (by simp; omega) fun H2 x2 => ?_
   fail "g"
   refine Yac ?_
   fail "g"
   exact ⟨rfl, j.trans x2⟩
  ·refine ⟨Nat.le_trans (List.length_filter_le _ _) (by simp), ?_⟩
   fail "g"
   refine q _ _ (last.trans ?_) j.len (j.trans (Fm.app _))
   rw [gp, if_neg h']
   rw [show [D.bl false, D.bl true] = [false, true].map D.bl from rfl, List.filter_map]
   rfl
noncomputable def ren (n l : Int) : Int := if 0 < l then l - n else l + n
noncomputable def Zl8 (bs : List Bool) (ls : List Int) : List Int := (rest bs ls).map (ren bs.length)
noncomputable def Zdb (bs : List Bool) (rss : List (List Int)) : List (List Int) := (rss.filter fun ls => !kept bs ls).map (Zl8 bs)
theorem Zvo {n l : Int} (h0 : 0 ≤ n) (h : n < Zbo l) : Zbo (ren n l) = Zbo l - n := by
 unfold ren Zbo at *; split <;> split at h <;> split <;> omega
theorem Zux {m : Int} (bs : List Bool) : ∀ (ls : List Int) (last : Int), 0 ≤ last -> Up m last ls -> Up (m - bs.length) (if (bs.length : Int) < last then last - bs.length else 0) (Zl8 bs ls)
 | [], _, _, _ => trivial
 | l :: r, last, h0, u => by
  obtain ⟨u1, u2, u3⟩ := u
  have ih := Zux bs r (Zbo l) (by omega) u3
  unfold Zl8 rest at *
  by_cases o : opn bs l = true
  ·have lo : (bs.length : Int) < Zbo l := of_decide_eq_true o
   rw [List.filter_cons_of_pos o, List.map_cons]
   have ha := Zvo (by omega) lo
   refine ⟨?_, ?_, ?_⟩
   ·rw [ha]; split <;> omega
   ·rw [ha]; omega
   ·rw [ha]; rw [if_pos lo] at ih; exact ih
  ·rw [List.filter_cons_of_neg o]
   have lo : ¬ (bs.length : Int) < Zbo l := fun z => o (decide_eq_true z)
   rw [if_neg lo] at ih
   rw [if_neg (by omega)]
   exact ih
theorem Cl.left {ks : List D} {rss : List (List Int)} (c : Cl ks rss) (bs : List Bool) (hb : bs.length ≤ ks.length) : Cl (ks.drop bs.length) (Zdb bs rss) := by
 have h8 := c.h8
 refine ⟨fun d hd => c.hk d (List.mem_of_mem_drop hd), fun ls hl => ?_, ?_, by simp; omega⟩
 ·obtain ⟨l0, h0, rfl⟩ := List.mem_map.mp hl
  have := Zux bs l0 0 (Int.le_refl _) (c.hu l0 (List.mem_filter.mp h0).1)
  rw [if_neg (by omega)] at this
  rw [List.length_drop]
  have e : ((ks.length - bs.length : Nat) : Int) = (ks.length : Int) - bs.length := by omega
  rw [e]; exact this
 ·unfold Zdb
  rw [List.length_map]
  exact Nat.le_trans (List.length_filter_le _ _) c.hl
theorem Zrz {fs : List Bool} {l : Int} (o : opn fs l = true) : rig fs l = false := by
 have lo : (fs.length : Int) < Zbo l := of_decide_eq_true o
 unfold rig
 rw [List.getElem?_eq_none (by omega)]
theorem Ze5 {n p : Nat} {xs : List D} (hf : Zal n H) (hp : H[p]? = some (.lst xs)) (hn : p ≠ n) (h0 : 0 < xs.length) (h1 : xs.length < 1000000) (q : ∀ x H', x ∈ xs -> Zal n H' -> Fm [n] H H' -> Q x H') : wE (Za7 [.ref n, .ref p] H) Q := by
 obtain ⟨x, H', hx, e, y, _⟩ := Zvt (n := n) (s := .ref p) (xs := xs) hf (.inr ⟨p, rfl, hn, hp⟩) h0 (by omega)
 exact ⟨_, _, e, q x H' hx y.feed y.fm⟩
theorem Zzd {p k : Nat} {xs : List Int} (g : H[p]? = some (.lst (xs.map .int))) (hk : k < xs.length) (hl : xs.length ≤ 1000) (q : Q (.int xs[k]) (H.set p (.lst ((xs.eraseIdx k).map .int)))) : wE (Zyj (.ref p) [.int k] H) Q := by
 refine ⟨_, _, ?_, q⟩
 unfold Zyj
 simp only [g]
 rw [if_pos ⟨by omega, by omega⟩]
 have e : seqIndex? (k : Int) (xs.map D.int).length = some k := by
  unfold seqIndex?
  rw [List.length_map]
  simp only [show ¬ ((k : Int) < 0) by omega, if_false]
  rw [if_pos (by simp; omega)]
  simp
 rw [e]
 have e2 : (xs.map D.int).eraseIdx k = (xs.eraseIdx k).map D.int := by
  rw [List.eraseIdx_eq_take_drop_succ, List.eraseIdx_eq_take_drop_succ, List.map_append, List.map_take, List.map_drop]
 simp [hk, e2]
theorem Zx0 {p : Nat} {xs : List Int} (g : H[p]? = some (.lst (xs.map .int))) (hl : xs.length < 64) (q : Q (.ref H.length) (H ++ [.lst ((Zd3 xs).map .int)])) : wE (Zhf [.ref p] H) Q := by
 refine ⟨_, _, ?_, q⟩
 simp [Zhf, Zf7, g, Zp1, hl, Zvm]
theorem w_lr2 {f : AF} {σ : SD} (h : wA (f σ H) fun ds H1 => ∃ i j : Int, ds = [.int i, .int j] ∧ Zb3 i ∧ Zb3 j ∧ (j - i).toNat ≤ 1000000 ∧ Q (.ref H1.length) (H1 ++ [.lst (Za2 i (j - i).toNat)])) : wE (eLR2 f σ H) Q := by
 obtain ⟨ds, H1, e, i, j, rfl, s1, s2, s3, q⟩ := h
 refine ⟨_, _, ?_, q⟩
 unfold eLR2
 rw [e]
 simp only [Zb]
 rw [if_pos ⟨s1, s2, s3⟩]
theorem Zo7 {n : Nat} {m : Int} (hf : Zal n H) (h0 : 0 ≤ m) (h1 : m ≤ 9) (q : ∀ ls H', Up m 0 ls -> Zal n H' -> Fm [n] H H' -> Q (Za1 ls) H') : wE (Zfu [.ref n, .int m] H) Q := by
 obtain ⟨M, rfl⟩ : ∃ M : Nat, m = M := ⟨m.toNat, by omega⟩
 refine Zbu rfl ?_
 show wS (Zek [some (.ref n), some (.int M), none, none, none, none, none] H) _
 unfold Zek
 fail "g"
 refine Zbz hf (by omega) (by omega) fun a H1 a0 a1 f1 x1 => ?_
 fail "g"
 refine Zbz f1 (by omega) (by omega) fun b H2 b0 b1 f2 x2 => ?_
 fail "g"
 have n2 := f2.lt
 have f2' := f2.fm (Fm.app (S := []) [DO.lst [D.int 1, .int 2, .int 2, .int 3, .int 3, .int 4, .int 2, .int 3, .int 1, .int (5 + a), .int 2, .int (2 * if decide (0 < b) = true then 1 else 0)]]) (by simp)
 refine Ze5 f2' last (by omega) (by simp) (by simp) fun x H3 hx f3 x3 => ?_
 obtain ⟨z, rfl, z0⟩ : ∃ z : Int, x = .int z ∧ 0 ≤ z := by
  simp only [List.mem_cons, List.not_mem_nil, or_false] at hx
  rcases hx with rfl | rfl | rfl | rfl | rfl | rfl | rfl | rfl | rfl | rfl | rfl | rfl <;> refine ⟨_, rfl, ?_⟩ <;> (try split) <;> omega
 have X3 : Fm [n] H H3 := ((x1.trans x2).trans (Fm.app _)).trans x3
 clear hx f2' x3
 fail "g"
 obtain ⟨K, hK, KM⟩ : ∃ K : Nat, (if z < (M : Int) then z else (M : Int)) = K ∧ K ≤ M := ⟨(if z < (M : Int) then z else (M : Int)).toNat, by split <;> omega, by split <;> omega⟩
 rw [hK]
 fail "g"
 refine w_lr2 ?_
 fail "g"
 refine ⟨_, _, rfl, ⟨by omega, by omega⟩, ⟨by omega, by omega⟩, by omega, ?_⟩
 rw [show ((M : Int) + 1 - 1).toNat = M by omega, Zl4]
 have nd0 := Zmz M
 have in0 : ∀ i ∈ (List.range M).map (fun j : Nat => (1 : Int) + (j : Int)), 1 ≤ i ∧ i ≤ M := fun i hi => by
  obtain ⟨j, hj, rfl⟩ := List.mem_map.mp hi
  have := List.mem_range.mp hj
  omega
 have ln0 : ((List.range M).map (fun j : Nat => (1 : Int) + (j : Int))).length = M := by simp
 generalize (List.range M).map (fun j : Nat => (1 : Int) + (j : Int)) = N0 at *
 fail "g"
 refine ⟨_, rfl, ⟨by omega, by omega⟩, ?_⟩
 rw [Int.toNat_natCast]
 have n3 := f3.lt
 have l3 := X3.len
 refine Zd1 (fun d t σ H' => ∃ ps qs : List Int, H'[H3.length]? = some (.lst (ps.map .int)) ∧ H'[H3.length + 1]? = some (.lst (qs.map .int)) ∧ (ps ++ qs).Perm N0 ∧ qs.length = d.length ∧ d.length + t.length = K ∧ Zal n H' ∧ Fm [n] H H' ∧ ∃ a2 z, σ = [some (.ref n), some (.int M), a2, some (.int K), some (.ref H3.length), some (.ref (H3.length + 1)), z]) (fun _ _ _ _ _ => Zko) (fun d x t σ H4 ⟨ps, qs, g1, g2, pm, e1, e2, f4, X4, a2, z, e3⟩ => ?_) (fun d σ H4 ⟨ps, qs, g1, g2, pm, e1, e2, f4, X4, a2, z, e3⟩ => ?_) _ [] _ _ ⟨N0, [], appL last, by simpa using (last (H := H3 ++ [DO.lst (N0.map D.int)]) (o := .lst [])), by simp, rfl, by simp [Za2], (f3.fm (Fm.app (S := []) _) (by simp)).fm (Fm.app (S := []) _) (by simp), (X3.trans (Fm.app _)).trans (Fm.app _), some (.ref H2.length), none, by simp⟩
 ·subst e3
  have lpm := pm.length_eq
  rw [List.length_append] at lpm
  simp only [List.length_cons] at e2
  fail "g"
  refine ⟨isl g2, ?_⟩
  fail "g"
  refine ⟨isl g1, ?_⟩
  fail "g"
  rw [List.length_map]
  refine Zbz f4 (by omega) (by omega) fun r H5 r0 r1 f5 x5 => ?_
  obtain ⟨k, rfl⟩ : ∃ k : Nat, r = k := ⟨r.toNat, by omega⟩
  have hk : k < ps.length := by omega
  have G1 := x5.lst (by simp; omega) g1
  have G2 := x5.lst (by simp; omega) g2
  fail "g"
  refine Zzd G1 hk (by omega) ?_
  fail "g"
  have G3 : (H5.set H3.length (.lst ((ps.eraseIdx k).map .int)))[H3.length + 1]? = some (.lst (qs.map .int)) := Zx6 (by omega) G2
  refine Zn2 G3 (by simp; omega) ?_
  fail "g"
  have S1 : (H5.set H3.length (.lst ((ps.eraseIdx k).map .int)))[H3.length]? = some (.lst ((ps.eraseIdx k).map .int)) := setS G1
  refine ⟨ps.eraseIdx k, qs ++ [ps[k]], Zx6 (by omega) S1, by rw [setS G3]; simp, ?_, by simp [e1], by simp; omega, ?_, ?_, a2, _, rfl⟩
  ·have e4 := Zix ps k hk
   have e5 : (ps.eraseIdx k ++ (qs ++ [ps[k]])).Perm (ps ++ qs) := by
    rw [← List.append_assoc]
    refine List.perm_append_comm.trans ?_
    exact (List.Perm.append_right qs e4 : (ps[k] :: ps.eraseIdx k ++ qs).Perm (ps ++ qs))
   exact e5.trans pm
  ·obtain ⟨u, v, e⟩ := f5; exact ⟨u, v, Zx6 (by omega) (Zx6 (by omega) e)⟩
  ·exact (X4.trans x5).new ((Fm.set (S := [H3.length, H3.length + 1]) (by simp)).trans (Fm.set (by simp))) (fun m hm _ => by simp at hm; omega)
 ·subst e3
  simp only [List.length_nil, Nat.add_zero] at e2
  have nd : qs.Nodup := (List.nodup_append.mp ((pm.nodup_iff).mpr nd0)).2.1
  have inq : ∀ i ∈ qs, 1 ≤ i ∧ i ≤ M := fun i hi => in0 i (pm.mem_iff.mp (by simp [hi]))
  fail "g"
  refine Zx0 g2 (by omega) ?_
  fail "g"
  have n4 := f4.lt
  refine Zhx (fun d t o H' => ∃ ls : List Int, o = ls.map .int ∧ ls.length = d.length ∧ d ++ t = (Zd3 qs).map .int ∧ (∀ i : Nat, i < ls.length -> ∃ w, d[i]? = some (.int w) ∧ ls[i]? = ls[i]? ∧ (ls[i]? = some w ∨ ls[i]? = some (-w))) ∧ H'[H4.length]? = some (.lst ((Zd3 qs).map .int)) ∧ Zal n H' ∧ Fm [n] H H') (fun _ _ _ _ ⟨_, _, _, _, _, j, _⟩ => Zxb j) (fun d x t o H5 ⟨ls, i1, i2, i3, i4, i5, i6, i7⟩ => ?_) _ [] [] _ ⟨[], rfl, rfl, rfl, fun i hi => absurd hi (Nat.not_lt_zero _), last, f4.fm (Fm.app (S := []) _) (by simp), X4.trans (Fm.app _)⟩ (fun d o H5 ⟨ls, i1, i2, i3, i4, i5, i6, i7⟩ => ?_)
  ·have hm : x ∈ (Zd3 qs).map D.int := by rw [← i3]; simp
   obtain ⟨w, hw, rfl⟩ := List.mem_map.mp hm
   have n5 := i6.lt
   fail "g"
   have F5 := i6.fm (Fm.app (S := []) [DO.lst [D.int w, .int (-w)]]) (by simp)
   refine Zbz F5 (by omega) (by omega) fun r H6 r0 r1 f6 x6 => ?_
   obtain ⟨v, hv, ev⟩ : ∃ v : Int, (v = w ∨ v = -w) ∧ atI [D.int w, .int (-w)] r = some (.int v) := by
    rcases (show r = 0 ∨ r = 1 by omega) with rfl | rfl
    ·exact ⟨w, .inl rfl, rfl⟩
    ·exact ⟨-w, .inr rfl, rfl⟩
   refine w_ixR (x6.lst (by simp; omega) last) ev ?_
   refine ⟨ls ++ [v], by rw [i1]; simp, by simp [i2], by rw [← i3]; simp, fun i hi => ?_, x6.lst (by simp; omega) (appL i5), f6, (i7.trans (Fm.app _)).trans x6⟩
   simp only [List.length_append, List.length_cons, List.length_nil] at hi
   by_cases c : i < ls.length
   ·obtain ⟨w', a1, _, a3⟩ := i4 i c
    refine ⟨w', by rw [List.getElem?_append_left (by omega)]; exact a1, rfl, ?_⟩
    rw [List.getElem?_append_left c]; exact a3
   ·have : i = ls.length := by omega
    subst this
    refine ⟨w, by rw [i2]; simp, rfl, ?_⟩
    rcases hv with rfl | rfl <;> simp
  ·rw [List.nil_append] at i1
   rw [List.append_nil] at i3
   subst i1 i3
   have il := (Zdn qs).length_eq
   rw [List.length_map] at i2
   refine ⟨by simp; omega, ?_⟩
   fail "g"
   have ab : ls.map Zbo = Zd3 qs := by
    apply List.ext_getElem?
    intro i
    by_cases c : i < ls.length
    ·obtain ⟨w, a1, _, a3⟩ := i4 i c
     rw [List.getElem?_map] at a1
     obtain ⟨w', b1, b2⟩ := Zm a1
     cases b2
     have := inq w (Zle (List.mem_of_getElem? b1))
     rw [List.getElem?_map, b1]
     rcases a3 with z | z <;> rw [z] <;> simp [Zbo] <;> omega
    ·rw [List.getElem?_eq_none (by simp; omega), List.getElem?_eq_none (by omega)]
   exact q ls _ (Ya4 ls 0 (by rw [ab]; exact Zt1 nd) (fun x hx => by rw [ab] at hx; have := inq x (Zle hx); omega)) (i6.fm (Fm.app (S := []) _) (by simp)) (i7.trans (Fm.app _))
theorem Zva {p r : Nat} {ds : List D} {xs : List PyData} {h : Nat} (f : Fines ds xs h) (hh : h < 30) (g1 : H[p]? = some (.lst ds)) (g2 : H[r]? = some (.lst [])) (q : Q (.bl (!ds.isEmpty)) H) : wE (neD (.ref p) (.ref r) H) Q :=
 ⟨_, _, Zmu (f.dat hh g1) ((Fines.nil (h := 0)).dat (by omega) g2), by
  have e : PyData.eqv (.list xs) (.list []) = ds.isEmpty := by
   have := f.len
   cases xs with
   | nil => cases ds with
    | nil => rfl
    | cons _ _ => simp at this
   | cons p ps => cases ds with
    | nil => simp at this
    | cons _ _ => simp [PyData.eqv, PyData.eqvAll]
  rw [e]; exact q⟩
theorem Yav {p : Nat} {xs : List D} {k : Nat} (g : H[p]? = some (.lst xs)) (q : Q (.ref H.length) (H ++ [.lst (xs.take k)])) : wE (slD (.ref p) none (some (k : Int)) H) Q :=
 ⟨_, _, by rw [← Zu2]; simp only [slD, g], q⟩
theorem Zsw {n : Nat} {most rows : Int} (hf : Zal n H) (hm : 2 ≤ most ∧ most ≤ 8) (hr : 0 ≤ rows ∧ rows ≤ 40)
  (q : ∀ ks rss H', Cl ks rss -> (ks.length : Int) ≤ most -> (rss.length : Int) ≤ rows -> Zal n H' -> Fm [n] H H' -> Q (Zay ks rss) H') : wE (Zfa [.ref n, .int most, .int rows] H) Q := by
 refine Zbu rfl ?_
 show wS (Zcz [some (.ref n), some (.int most), some (.int rows), none, none, none, none, none] H) _
 unfold Zcz
 fail "g"
 refine Zbz hf (by omega) (by omega) fun r H1 r0 r1 f1 x1 => ?_
 fail "g"
 have f1' := f1.fm (Fm.app (S := []) [DO.lst [D.int most, D.int (most - 1), D.int most, D.int (most - 2), D.int most, D.int r]]) (by simp)
 have n1 := f1.lt
 refine Ze5 f1' last (by omega) (by simp) (by simp) fun x H2 hx f2 x2 => ?_
 obtain ⟨N, rfl, N0, N1⟩ : ∃ N : Nat, x = .int N ∧ (N : Int) ≤ most ∧ N ≤ 8 := by
  simp only [List.mem_cons, List.not_mem_nil, or_false] at hx
  rcases hx with rfl | rfl | rfl | rfl | rfl | rfl
  ·exact ⟨most.toNat, by congr 1; omega, by omega, by omega⟩
  ·exact ⟨(most - 1).toNat, by congr 1; omega, by omega, by omega⟩
  ·exact ⟨most.toNat, by congr 1; omega, by omega, by omega⟩
  ·exact ⟨(most - 2).toNat, by congr 1; omega, by omega, by omega⟩
  ·exact ⟨most.toNat, by congr 1; omega, by omega, by omega⟩
  ·exact ⟨r.toNat, by congr 1; omega, by omega, by omega⟩
 have X2 : Fm [n] H H2 := (x1.trans (Fm.app _)).trans x2
 clear hx f1' x2
 fail "g"
 refine Zbz f2 (by omega) (by omega) fun way H3 _ _ f3 x3 => ?_
 have X3 := X2.trans x3
 fail "g"
 refine ⟨_, rfl, ⟨by omega, by omega⟩, ?_⟩
 rw [Int.toNat_natCast]
 refine Zhx (fun d t o H' => o.length = d.length ∧ d.length + t.length = N ∧ (∀ k ∈ o, Ze2 k) ∧ Zal n H' ∧ Fm [n] H H') (fun _ _ _ _ _ => Zko) (fun d x t o H4 ⟨e1, e2, e3, e4, e5⟩ => ?_) _ [] [] _ ⟨rfl, by simp [Za2], by simp, f3, X3⟩ (fun d o H4 ⟨e1, e2, e3, f4, X4⟩ => ?_)
 ·fail "g"
  have n4 := e4.lt
  have f4 := e4.fm (Fm.app (S := []) [DO.lst [.str "all", .str "some"]]) (by simp)
  refine Ze5 f4 last (by omega) (by simp) (by simp) fun k H5 hk f5 x5 => ?_
  refine ⟨by simp [e1], by simp at e2 ⊢; omega, fun y hy => ?_, f5, (e5.trans (Fm.app _)).trans x5⟩
  rcases List.mem_append.mp hy with z | z
  ·exact e3 y z
  ·simp at z; subst z
   simp at hk
   rcases hk with rfl | rfl
   ·exact .inl rfl
   ·exact .inr rfl
 rw [List.nil_append] at e1 e3
 simp only [List.length_nil, Nat.add_zero] at e2
 refine ⟨by omega, ?_⟩
 have n4 := f4.lt
 have l4 := X4.len
 show wS (Zaf _ _ [some (.ref n), some (.int most), some (.int rows), some (.int N), some (.int way), some (.ref H4.length), none, none] (H4 ++ [.lst o])) _
 refine w_seq (Zqa (fun σ H' => ∃ p ks, H'[p]? = some (.lst ks) ∧ ks.length = N ∧ (∀ k ∈ ks, Ze2 k) ∧ Zal n H' ∧ Fm [n] H H' ∧ p ≠ n ∧ σ = [some (.ref n), some (.int most), some (.int rows), some (.int N), some (.int way), some (.ref p), none, none]) ?_ ?_)
 ·(refine WP.w_if ?_; fail "g")
  refine ⟨fun h => ?_, fun h => ?_⟩
  ·fail "g"
   refine ⟨_, rfl, ⟨by omega, by omega⟩, ?_⟩
   rw [Int.toNat_natCast]
   refine Zhx (fun d t o' H' => o'.length = d.length ∧ d.length + t.length = N ∧ (∀ x ∈ t, ∃ i : Nat, x = .int i) ∧ (∀ k ∈ o', Ze2 k) ∧ Zal n H' ∧ Fm [n] H H') (fun _ _ _ _ _ => Zko) (fun d x t o' H5 ⟨e1, e2, ei, e3, e4, e5⟩ => ?_) _ [] [] _ ⟨rfl, by simp [Za2], fun x hx => ?_, by simp, f4.fm (Fm.app (S := []) _) (by simp), X4.trans (Fm.app _)⟩ (fun d o' H5 ⟨e1, e2, _, e3, f5, X5⟩ => ?_)
   ·obtain ⟨i, rfl⟩ := ei x (by simp)
    fail "g"
    have hm2 : (i : Int) % 2 = 0 ∨ (i : Int) % 2 = 1 := by omega
    obtain ⟨k, hk, ek⟩ : ∃ k : D, Ze2 k ∧ atI [D.str "some", .str "all"] ((i : Int) % 2) = some k := by
     rcases hm2 with z | z <;> rw [z]
     ·exact ⟨_, .inr rfl, rfl⟩
     ·exact ⟨_, .inl rfl, rfl⟩
    refine w_ixR last ek ?_
    refine ⟨by simp [e1], by simp at e2 ⊢; omega, fun y hy => ei y (by simp [hy]), fun y hy => ?_, e4.fm (Fm.app (S := []) _) (by simp), e5.trans (Fm.app _)⟩
    rcases List.mem_append.mp hy with z | z
    ·exact e3 y z
    ·simp at z; subst z; exact hk
   ·simp only [Za2, List.mem_map] at hx
    obtain ⟨k, _, rfl⟩ := hx
    exact ⟨k, by simp⟩
   rw [List.nil_append] at e1 e3
   simp only [List.length_nil, Nat.add_zero] at e2
   refine ⟨by omega, ?_⟩
   fail "g"
   have n5 := f5.lt
   exact ⟨rfl, H5.length, o', last, by omega, e3, f5.fm (Fm.app (S := []) _) (by simp), X5.trans (Fm.app _), by omega, rfl⟩
  ·fail "g"
   exact ⟨rfl, H4.length, o, last, by omega, e3, f4.fm (Fm.app (S := []) _) (by simp), X4.trans (Fm.app _), by omega, rfl⟩
 clear e1 e2 e3 n4 l4 X4 f4
 rintro _ H4 ⟨p, ks, g, lk, hk, f4, X4, hp, rfl⟩
 fail "g"
 refine Zbz f4 (by omega) (by omega) fun r5 H5 r50 r51 f5 x5 => ?_
 fail "g"
 have n5 := f5.lt
 have g5 := x5.lst (by simpa using hp) g
 have f5' := f5.fm (Fm.app (S := []) [DO.lst [D.int (N : Int), .int ((N : Int) + (N : Int) / 2), .int (2 * (N : Int)), .int ((N : Int) / 2 + 1), .int r5, .int 2]]) (by simp)
 refine Ze5 f5' last (by omega) (by simp) (by simp) fun x H6 hx f6 x6 => ?_
 obtain ⟨z, rfl, z0, z1⟩ : ∃ z : Int, x = .int z ∧ 0 ≤ z ∧ z ≤ 100 := by
  simp only [List.mem_cons, List.not_mem_nil, or_false] at hx
  rcases hx with rfl | rfl | rfl | rfl | rfl | rfl <;> exact ⟨_, rfl, by omega, by omega⟩
 have g6 := x6.lst (by simpa using hp) (appL (u := DO.lst [D.int (N : Int), .int ((N : Int) + (N : Int) / 2), .int (2 * (N : Int)), .int ((N : Int) / 2 + 1), .int r5, .int 2]) g5)
 have X6 : Fm [n] H H6 := ((X4.trans x5).trans (Fm.app _)).trans x6
 clear hx f5' x6 x5 g5
 fail "g"
 obtain ⟨K, hK, K40⟩ : ∃ K : Nat, (if z < rows then z else rows) = (K : Int) ∧ (K : Int) ≤ 40 := ⟨(if z < rows then z else rows).toNat, by split <;> omega, by split <;> omega⟩
 rw [hK]
 refine ⟨_, rfl, ⟨by omega, by omega⟩, ?_⟩
 rw [Int.toNat_natCast]
 refine Zhx (fun d t o H' => ∃ rss : List (List Int), o = rss.map Za1 ∧ rss.length = d.length ∧ d.length + t.length = K ∧ (∀ ls ∈ rss, Up N 0 ls) ∧ H'[p]? = some (.lst ks) ∧ Zal n H' ∧ Fm [n] H H') (fun _ _ _ _ _ => Zko) (fun d x t o H7 ⟨rss, e0, e1, e2, e3, e4, e5, e6⟩ => ?_) _ [] [] _ ⟨[], rfl, rfl, by simp [Za2], by simp, g6, f6, X6⟩ (fun d o H7 ⟨rss, e0, e1, e2, e3, g7, f7, X7⟩ => ?_)
 ·fail "g"
  refine Zo7 e5 (by omega) (by omega) fun ls H8 u f8 x8 => ?_
  refine ⟨rss ++ [ls], by rw [e0]; simp, by simp [e1], by simp at e2 ⊢; omega, fun y hy => ?_, x8.lst (by simpa using hp) e4, f8, e6.trans x8⟩
  rcases List.mem_append.mp hy with q | q
  ·exact e3 y q
  ·simp at q; subst q; exact u
 rw [List.nil_append] at e0
 simp only [List.length_nil, Nat.add_zero] at e2
 subst e0
 refine ⟨by simp; omega, ?_⟩
 have n7 := f7.lt
 show wS (Zaf _ _ [some (.ref n), some (.int most), some (.int rows), some (.int N), some (.int way), some (.ref p), some (.int z), some (.ref H7.length)] (H7 ++ [.lst (rss.map Za1)])) _
 refine w_seq (Zqa (fun σ H' => ∃ rs : List (List Int), H'[H7.length]? = some (.lst (rs.map Za1)) ∧ H'[p]? = some (.lst ks) ∧ rs.length ≤ 50 ∧ (∀ ls ∈ rs, Up N 0 ls) ∧ Zal n H' ∧ Fm [n] H H' ∧ σ = [some (.ref n), some (.int most), some (.int rows), some (.int N), some (.int way), some (.ref p), some (.int z), some (.ref H7.length)]) ?_ ?_)
 ·(refine WP.w_if ?_; fail "g")
  refine Zva (Zpw rss) (by omega) (appL last) last ?_
  have F0 : Zal n (H7 ++ [DO.lst (rss.map Za1)] ++ [.lst []]) := (f7.fm (Fm.app (S := []) _) (by simp)).fm (Fm.app (S := []) _) (by simp)
  have Y0 : Fm [n] H (H7 ++ [DO.lst (rss.map Za1)] ++ [.lst []]) := (X7.trans (Fm.app _)).trans (Fm.app _)
  have G0 : (H7 ++ [DO.lst (rss.map Za1)] ++ [DO.lst []])[H7.length]? = some (.lst (rss.map Za1)) := appL last
  have P0 : (H7 ++ [DO.lst (rss.map Za1)] ++ [DO.lst []])[p]? = some (.lst ks) := appL (appL g7)
  have hpn : p ≠ H7.length := by have := (List.getElem?_eq_some_iff.mp g7).1; omega
  have h7n : H7.length ≠ n := by omega
  generalize H7 ++ [DO.lst (rss.map Za1)] ++ [DO.lst []] = HH at *
  cases he : (rss.map Za1).isEmpty with
  | true =>
   fail "g"
   exact ⟨rfl, rss, G0, P0, by omega, e3, F0, Y0, rfl⟩
  | false =>
   have ne : 0 < rss.length := by
    cases rss with
    | nil => simp at he
    | cons a b => simp
   fail "g"
   refine Zbz F0 (by omega) (by omega) fun r8 H8 r80 r81 f8 x8 => ?_
   have G8 := x8.lst (by simpa using h7n) G0
   have P8 := x8.lst (by simpa using hp) P0
   fail "g"
   refine ⟨fun h => ?_, fun h => ?_⟩
   ·fail "g"
    refine ⟨isl G8, ?_⟩
    fail "g"
    refine Ze5 f8 G8 h7n (by simpa using ne) (by simp; omega) fun x H9 hx f9 x9 => ?_
    obtain ⟨ls, hls, rfl⟩ := List.mem_map.mp hx
    have G9 := x9.lst (by simpa using h7n) G8
    have P9 := x9.lst (by simpa using hp) P8
    fail "g"
    refine Zn2 G9 (by simp; omega) ?_
    fail "g"
    refine ⟨rfl, rss ++ [ls], by rw [setS G9]; simp, Zx6 (Ne.symm hpn) P9, by simp; omega, fun y hy => ?_, ?_, ?_, rfl⟩
    ·rcases List.mem_append.mp hy with q | q
     ·exact e3 y q
     ·simp at q; subst q; exact e3 _ hls
    ·obtain ⟨a, b, e⟩ := f9; exact ⟨a, b, Zx6 h7n e⟩
    ·exact ((Y0.trans x8).trans x9).new (Fm.set (S := [H7.length]) (by simp)) (fun q hq _ => by simp at hq; subst hq; exact X7.len)
   ·fail "g"
    exact ⟨rfl, rss, G8, P8, by omega, e3, f8, Y0.trans x8, rfl⟩
 rintro _ H8 ⟨rs, g8, gk, l8, u8, f8, X8, rfl⟩
 fail "g"
 obtain ⟨R, rfl⟩ : ∃ R : Nat, rows = R := ⟨rows.toNat, by omega⟩
 refine Yav g8 ?_
 fail "g"
 have c : Cl ks (rs.take R) := ⟨hk, fun ls h => by rw [lk]; exact u8 ls (List.mem_of_mem_take h), by simp; omega, by omega⟩
 have e : Zay ks (rs.take R) = .tup [.tup ks, .tup ((rs.map Za1).take R)] := by unfold Zay; rw [List.map_take]
 have := q ks (rs.take R) (H8 ++ [.lst ((rs.map Za1).take R)]) c (by omega) (by simp; omega) (f8.fm (Fm.app (S := []) _) (by simp)) (X8.trans (Fm.app _))
 rw [e] at this
 exact this
theorem Zz9 {xs : List D} {k : Int} (h1 : 0 ≤ k) (h2 : k ≤ 1000) (h3 : xs.length ≤ 1000) (q : Q (.tup (List.replicate k.toNat xs).flatten) H) : wE (Zgt (.tup xs) (.int k) H) Q := ⟨_, _, muT (by omega) h2 h3, q⟩
theorem Zxt {n : Nat} {ks : List D} {rss : List (List Int)} (hf : Zal n H) (c : Cl ks rss) (hl : rss.length ≤ 40)
  (q : ∀ rss' H', Cl ks rss' -> rss'.length ≤ 80 -> Zal n H' -> Fm [n] H H' -> Q (Zay ks rss') H') : wE (Zf5 [.ref n, Zay ks rss] H) Q := by
 have h8 := c.h8
 refine Zbu rfl ?_
 show wS (Zdo [some (.ref n), some (Zay ks rss), none] H) _
 unfold Zdo
 fail "g"
 refine Zbz hf (by omega) (by omega) fun r H1 r0 r1 f1 x1 => ?_
 obtain ⟨K, hK⟩ : ∃ K : Nat, 1 + r = (K : Int) := ⟨(1 + r).toNat, by omega⟩
 fail "g"
 rw [hK]
 fail "i"
 refine Zbz f1 (by omega) (by omega) fun r2 H2 _ _ f2 x2 => ?_
 have X2 := x1.trans x2
 have fin : ∀ (as : List (List Int)) (H' : HD), as.length ≤ 40 -> (∀ ls ∈ as, Up ks.length 0 ls) -> Zal n H' -> Fm [n] H H' -> Q (Zay ks (as ++ rss)) H' := fun as H' la ha f x =>
  q _ _ ⟨c.hk, fun ls h => (List.mem_append.mp h).elim (ha ls) (c.hu ls), by simp; omega, h8⟩ (by simp; omega) f x
 fail "g"
 refine ⟨fun h => ?_, fun h => ?_⟩
 ·fail "g"
  refine w_slhi (k := 1) ?_
  fail "g"
  have l1 : ((rss.map Za1).take 1).length ≤ 1 := by simp; omega
  refine Zz9 (by omega) (by omega) (by omega) ?_
  have e : (List.replicate (K : Int).toNat ((rss.map Za1).take 1)).flatten = ((List.replicate K (rss.take 1)).flatten).map Za1 := by simp [List.map_flatten, List.map_replicate, List.map_take]
  have lr : (List.replicate K (rss.take 1)).flatten.length ≤ 40 := by
   have : (rss.take 1).length ≤ 1 := by simp; omega
   have := Nat.mul_le_mul_left K this
   simp [List.length_flatten] at this ⊢
   omega
  have hm : ∀ ls ∈ (List.replicate K (rss.take 1)).flatten, ls ∈ rss := fun ls h => by
   obtain ⟨l, h1, h2⟩ := List.mem_flatten.mp h
   rw [List.eq_of_mem_replicate h1] at h2
   exact List.mem_of_mem_take h2
  rw [e]
  generalize (List.replicate K (rss.take 1)).flatten = as at lr hm ⊢
  fail "g"
  rw [← List.map_append]
  exact fin _ _ lr (fun ls h => c.hu ls (hm ls h)) f2 X2
 ·fail "g"
  refine ⟨_, rfl, ⟨by omega, by omega⟩, ?_⟩
  rw [Int.toNat_natCast]
  refine Zhx (fun d t o H' => ∃ as : List (List Int), o = as.map Za1 ∧ as.length = d.length ∧ d.length + t.length = K ∧ (∀ ls ∈ as, Up ks.length 0 ls) ∧ Zal n H' ∧ Fm [n] H H') (fun _ _ _ _ _ => Zko) (fun d x t o H7 ⟨as, e0, e1, e2, e3, e5, e6⟩ => ?_) _ [] [] _ ⟨[], rfl, rfl, by simp [Za2], by simp, f2, X2⟩ (fun d o H7 ⟨as, e0, e1, e2, e3, f7, X7⟩ => ?_)
  ·fail "g"
   refine Zo7 e5 (by omega) (by omega) fun ls H8 u f8 x8 => ?_
   refine ⟨as ++ [ls], by rw [e0]; simp, by simp [e1], by simp at e2 ⊢; omega, fun y hy => ?_, f8, e6.trans x8⟩
   rcases List.mem_append.mp hy with hy | hy
   ·exact e3 y hy
   ·simp at hy; subst hy; exact u
  ·subst e0
   simp at e2
   refine ⟨by simp; omega, ?_⟩
   fail "g"
   rw [← List.map_append]
   exact fin as _ (by omega) e3 (f7.fm (Fm.app (S := []) _) (by simp)) (X7.trans (.app _))
noncomputable def two (bs : List Bool) : List (List Bool) := [bs ++ [false], bs ++ [true]]
noncomputable def lev : Nat -> List (List Bool)
 | 0 => [[]]
 | k + 1 => (lev k).flatMap two
noncomputable def Zg1 : Nat -> List (List Bool)
 | 0 => lev 0
 | k + 1 => lev (k + 1) ++ Zg1 k
theorem Zec : ∀ (k : Nat), ∀ bs ∈ lev k, bs.length = k
 | 0, bs, h => by simp [lev] at h; subst h; rfl
 | k + 1, bs, h => by
  obtain ⟨x, hx, h⟩ := List.mem_flatMap.mp h
  have := Zec k x hx
  simp only [two, List.mem_cons, List.not_mem_nil, or_false] at h
  rcases h with rfl | rfl <;> simp [this]
theorem Zj0 : ∀ k : Nat, (lev k).length = 2 ^ k
 | 0 => rfl
 | k + 1 => by
  have : ∀ xs : List (List Bool), (xs.flatMap two).length = 2 * xs.length := fun xs => by
   induction xs with
   | nil => rfl
   | cons x r ih => rw [List.flatMap_cons, List.length_append, ih]; simp [two]; omega
  show ((lev k).flatMap two).length = _
  rw [this, Zj0 k, Nat.pow_succ]; omega
theorem addL {p q : Nat} {H : HD} {xs ys : List D} (h1 : H[p]? = some (.lst xs)) (h2 : H[q]? = some (.lst ys)) (hl : xs.length + ys.length ≤ 100000) : Zb4 (.ref p) (.ref q) H = some (.ref H.length, H ++ [.lst (xs ++ ys)]) := by
 have z : (xs ++ ys).length ≤ sizeLine := Zeh (by simp; omega)
 simp only [Zb4, h1, h2]
 exact if_pos z
theorem Zxg (xs : List D) (v : D) : atI (xs ++ [v]) (-1) = some v := by
 unfold atI ixN
 rw [if_neg (by decide), if_pos (by simp; omega)]
 have : ((-1 : Int) + (((xs ++ [v]).length : Nat) : Int)).toNat = xs.length := by simp; omega
 rw [this]
 simp
theorem Zj4 : ∀ k : Nat, (Zg1 k).length < 2 ^ (k + 1)
 | 0 => by decide
 | k + 1 => by
  have a := Zj4 k
  have b := Zj0 (k + 1)
  show (lev (k + 1) ++ Zg1 k).length < _
  rw [List.length_append, b, Nat.pow_succ 2 (k + 1)]; omega
noncomputable def enc (bs : List Bool) : List Int := bs.map fun b => if b then 1 else 0
theorem Zga (bs : List Bool) : nk (Zau bs) = some (enc bs) := by
 show Zkb (bs.map D.bl) = _
 induction bs with
 | nil => rfl
 | cons b r ih =>
  rw [List.map_cons, Zkb, ih]
  cases b <;> rfl
theorem Zl1 : ∀ a b : List Bool, enc a = enc b -> a = b
 | [], [], _ => rfl
 | [], _ :: _, h => by simp [enc] at h
 | _ :: _, [], h => by simp [enc] at h
 | x :: a, y :: b, h => by
  have h1 : (if x then (1 : Int) else 0) = (if y then 1 else 0) := (List.cons.inj h).1
  have h2 : enc a = enc b := (List.cons.inj h).2
  rw [Zl1 a b h2]
  cases x <;> cases y <;> simp at h1 <;> rfl
theorem Zie : ∀ k : Nat, (lev k).Nodup
 | 0 => by simp [lev]
 | k + 1 => by
  have : ∀ xs : List (List Bool), xs.Nodup -> (xs.flatMap two).Nodup := fun xs => by
   induction xs with
   | nil => intro _; simp
   | cons x r ih =>
    intro h
    obtain ⟨h1, h2⟩ := List.nodup_cons.mp h
    rw [List.flatMap_cons]
    refine List.nodup_append.mpr ⟨by simp [two], ih h2, ?_⟩
    intro a ha b hb e
    subst e
    obtain ⟨y, hy, hb⟩ := List.mem_flatMap.mp hb
    simp only [two, List.mem_cons, List.not_mem_nil, or_false] at ha hb
    have : x = y := by
     rcases ha with ha | ha <;> rcases hb with hb | hb <;> rw [ha] at hb <;> exact (List.append_inj' hb rfl).1
    exact h1 (this ▸ hy)
  exact this _ (Zie k)
theorem Zjf : ∀ (k : Nat), ∀ bs ∈ Zg1 k, bs.length ≤ k
 | 0, bs, h => by have := Zec 0 bs h; omega
 | k + 1, bs, h => by
  rcases List.mem_append.mp h with h | h
  ·have := Zec (k + 1) bs h; omega
  ·have := Zjf k bs h; omega
theorem Zis : ∀ k : Nat, (Zg1 k).Nodup
 | 0 => Zie 0
 | k + 1 => List.nodup_append.mpr ⟨Zie (k + 1), Zis k, fun a ha b hb e => by
   have h1 := Zec (k + 1) a ha
   have h2 := Zjf k b hb
   rw [e] at h1; omega⟩
noncomputable def kv (ks : List D) (rss : List (List Int)) (bs : List Bool) : D × D := (Zau bs, FW ks rss bs)
theorem Zm0 {ks : List D} {rss : List (List Int)} {bs : List Bool} : ∀ done : List (List Bool), bs ∈ done -> Za4 (done.map (kv ks rss)) (enc bs) = some (FW ks rss bs)
 | [], h => by simp at h
 | x :: r, h => by
  unfold Za4
  rw [List.map_cons, List.find?_cons]
  by_cases c : x = bs
  ·subst c
   have : (nk (kv ks rss x).1 == some (enc x)) = true := by simp [kv, Zga]
   rw [this]; rfl
  ·have : (nk (kv ks rss x).1 == some (enc bs)) = false := by
    simp only [kv, Zga]
    exact beq_eq_false_iff_ne.mpr fun z => c (Zl1 x bs (Option.some.inj z))
   rw [this]
   rcases List.mem_cons.mp h with h | h
   ·exact absurd h.symm c
   ·exact Zm0 r h
theorem Znf {ks : List D} {rss : List (List Int)} {bs : List Bool} : ∀ done : List (List Bool), bs ∉ done -> Za4 (done.map (kv ks rss)) (enc bs) = none
 | [], h => rfl
 | x :: r, h => by
  unfold Za4
  rw [List.map_cons, List.find?_cons]
  have c : x ≠ bs := fun z => h (by simp [z])
  have : (nk (kv ks rss x).1 == some (enc bs)) = false := by
   simp only [kv, Zga]
   exact beq_eq_false_iff_ne.mpr fun z => c (Zl1 x bs (Option.some.inj z))
  rw [this]
  exact Znf r fun z => h (by simp [z])
noncomputable def Zsc (b : Bool) : Str := if b then "some" else "all"
theorem Zm3 (b : Bool) : Za6 b = .str (Zsc b) := by cases b <;> rfl
theorem Zuy (b : Bool) : PyData.strOk (Zsc b) = true := by cases b <;> exact Zca (by decide)
theorem Zyt (a b : Bool) : (Zsc a == Zsc b) = (a == b) := by
 have e1 : (("some" : Str) == ("all" : Str)) = false := by decide
 have e2 : (("all" : Str) == ("some" : Str)) = false := by decide
 cases a <;> cases b <;> simp [Zsc, e1, e2]
theorem Ya6 {H : HD} {q : Nat} {a b w : Bool} (h : H[q]? = some (.lst [Za6 a, Za6 b])) : inD (Za6 w) (.ref q) H = some (.bl (a == w || b == w), H) := by
 have e1 : dat (Za6 w) H = some (.str (Zsc w)) := by
  unfold dat
  rw [Zm3, Zhc]
  simp only [Zb]
  rw [if_pos]
  simp [okP, PyData.canLay0, PyData.depth, Zuy]
 have e2 : dat (.ref q) H = some (.list [.str (Zsc a), .str (Zsc b)]) := by
  unfold dat
  rw [toP]
  simp only [h, Zm3, Ze9, Zhc, Zb, Option.map_some]
  rw [if_pos]
  simp [okP, PyData.canLay0, PyData.canLayAll0, PyData.depth, PyData.depthAll, Zuy]
 unfold inD
 rw [e1]
 simp only [Zb]
 rw [e2]
 simp only [Zb, Zen, Option.map_some]
 have : ∀ x y : Bool, PyData.eqv (.str (Zsc x)) (.str (Zsc y)) = (x == y) := fun x y => by
  rw [← Zyt]; simp [PyData.eqv]
 simp [this]
noncomputable def Zgs : D -> List Int
 | .tup ds => ds.filterMap fun
  | .int i => some i
  | _ => none
 | _ => []
theorem Zev (ls : List Int) : Zgs (Za1 ls) = ls := by
 show (ls.map D.int).filterMap _ = ls
 induction ls with
 | nil => rfl
 | cons l r ih => rw [List.map_cons, List.filterMap_cons]; simp only []; rw [ih]
theorem Zy7 {ks : List D} {rss : List (List Int)} {bs : List Bool} (h : bs.length < ks.length) : FW ks rss bs = (let who := kS (ks.getD bs.length .non); let a := W ks rss (ks.length - (bs ++ [false]).length) (bs ++ [false]); let b := W ks rss (ks.length - (bs ++ [true]).length) (bs ++ [true]); if (a == who || b == who) = true then Za6 who else Za6 a) := by
 have e : ks.length - bs.length = (ks.length - (bs.length + 1)) + 1 := by omega
 have l : ∀ t : Bool, (bs ++ [t]).length = bs.length + 1 := fun t => by simp
 unfold FW
 rw [e, l, l, W]
 simp only []
 generalize W ks rss (ks.length - (bs.length + 1)) (bs ++ [false]) = a
 generalize W ks rss (ks.length - (bs.length + 1)) (bs ++ [true]) = b
 generalize kS (ks.getD bs.length .non) = w
 cases a <;> cases b <;> cases w <;> rfl
theorem Zqq : ∀ (k : Nat) (bs : List Bool), bs.length ≤ k -> bs ∈ Zg1 k := by
 have lv : ∀ (k : Nat) (bs : List Bool), bs.length = k -> bs ∈ lev k := by
  intro k
  induction k with
  | zero => intro bs h; rw [List.length_eq_zero_iff.mp h]; simp [lev]
  | succ k ih =>
   intro bs h
   have hn : bs ≠ [] := fun z => by rw [z] at h; cases h
   have e := List.dropLast_concat_getLast hn
   rw [lev, List.mem_flatMap]
   refine ⟨bs.dropLast, ih _ (by simp; omega), ?_⟩
   generalize bs.dropLast = cs at e
   generalize bs.getLast hn = t at e
   subst e
   cases t <;> simp [two]
 intro k
 induction k with
 | zero => intro bs h; exact lv 0 bs (by omega)
 | succ k ih =>
  intro bs h
  rw [Zg1, List.mem_append]
  by_cases c : bs.length = k + 1
  ·exact .inl (lv _ _ c)
  ·exact .inr (ih bs (by omega))
theorem Zq9 {bs : List Bool} {ls : List Int} (h : ∀ l ∈ ls, 0 < Zbo l) (q : Q (.bl (kept bs ls)) H) : wE (Zer [Za1 ls, Zau bs] H) Q := by
 refine Zbu rfl ?_
 show wS (Zdk [some (.tup (ls.map .int)), some (Zau bs), none] H) _
 unfold Zdk
 fail "g"
 refine Zd1 (fun d t σ H' => ∃ r : List Int, t = r.map .int ∧ (∀ l ∈ r, 0 < Zbo l) ∧ kept bs r = kept bs ls ∧ H' = H ∧ ∃ z, σ = [some (.tup (ls.map .int)), some (Zau bs), z]) (fun _ _ _ _ _ => Zko) (fun d x t σ H1 ⟨r, e1, e2, e3, e4, z, e5⟩ => ?_) (fun d σ H1 ⟨r, e1, e2, e3, e4, z, e5⟩ => ?_) _ [] _ _ ⟨ls, rfl, h, rfl, rfl, _, rfl⟩
 ·cases r with
  | nil => cases e1
  | cons l r =>
   obtain ⟨rfl, rfl⟩ := List.cons.inj e1
   subst e4; subst e5
   have l0 := e2 l (by simp)
   have e6 : kept bs (l :: r) = (rig bs l || kept bs r) := by unfold kept; rw [List.any_cons]
   rw [e6] at e3
   have nx : rig bs l = false -> ∃ r' : List Int, r.map D.int = r'.map .int ∧ (∀ l ∈ r', 0 < Zbo l) ∧ kept bs r' = kept bs ls ∧ H1 = H1 ∧ ∃ z, [some (.tup (ls.map .int)), some (Zau bs), some (D.int l)] = [some (.tup (ls.map .int)), some (Zau bs), z] := fun hr =>
    ⟨r, rfl, fun y hy => e2 y (by simp [hy]), by rw [← e3, hr]; rfl, rfl, _, rfl⟩
   fail "i"
   refine ⟨fun hh => ?_, fun hh => ?_⟩
   ·have lo : Zbo l ≤ bs.length := by simpa using hh
    obtain ⟨b, hb⟩ : ∃ b, bs[(Zbo l - 1).toNat]? = some b := ⟨bs[(Zbo l - 1).toNat]'(by omega), List.getElem?_eq_getElem _⟩
    have er : rig bs l = (b == decide (0 < l)) := by unfold rig; rw [hb]
    fail "g"
    refine w_ixT (xs := bs.map .bl) (Zf2 (by omega) (by rw [List.getElem?_map, hb]; rfl)) ?_
    fail "g"
    refine Zz0 ?_
    fail "g"
    rw [← er]
    refine ⟨fun hr => ?_, fun hr => ?_⟩
    ·fail "g"
     rw [hr] at e3
     rw [← e3] at q; exact q
    ·fail "g"
     exact nx hr
   ·have lo : ¬ Zbo l ≤ bs.length := by simpa using hh
    fail "g"
    exact nx (by unfold rig; rw [List.getElem?_eq_none (by omega)])
 ·have : r = [] := by cases r with | nil => rfl | cons _ _ => cases e1
  subst this; subst e4; subst e5
  fail "g"
  rw [← e3] at q; exact q
theorem Zun {p r : Nat} {xs ys : List D} (h1 : H[p]? = some (.lst xs)) (h2 : H[r]? = some (.lst ys)) (hl : xs.length + ys.length ≤ 100000) (q : Q (.ref H.length) (H ++ [.lst (xs ++ ys)])) : wE (Zb4 (.ref p) (.ref r) H) Q := ⟨_, _, addL h1 h2 hl, q⟩
noncomputable def lowP : Nat -> List (List Bool)
 | 0 => []
 | k + 1 => Zg1 k
theorem Ztm (k : Nat) : Zg1 k = lev k ++ lowP k := by cases k <;> simp [Zg1, lowP]
noncomputable def Lvs (p : Nat) (rs : List Nat) (H : HD) : Prop := H[p]? = some (.lst (rs.map .ref)) ∧ ∀ i r, rs[i]? = some r -> r ≠ p ∧ H[r]? = some (.lst ((lev i).map Zau))
theorem Lvs.keep {p : Nat} {rs : List Nat} {H' : HD} (v : Lvs p rs H) (x : ExtS [] H H') : Lvs p rs H' := ⟨x.old _ _ (by simp) v.1, fun i r e => ⟨(v.2 i r e).1, x.old _ _ (by simp) (v.2 i r e).2⟩⟩
theorem Zvj {S : List Nat} {H' : HD} (x : ExtS [] H H') : ExtS S H H' := ⟨fun m o _ q => x.old m o (by simp) q, x.len⟩
theorem Zqx {k : Nat} (h : k ≤ 8) : (lev k).length ≤ 256 := by
 rw [Zj0]
 exact Nat.le_trans (Nat.pow_le_pow_right (by omega) h) (by decide)
theorem Zzz {f : AF} {σ : SD} {I : List D -> Zgy -> HD -> Prop} (h : wA (f σ H) fun ds H1 => ∃ n xs, ds = [.ref n] ∧ H1[n]? = some (.lst xs) ∧ I xs.reverse [(n, .lst xs)] H1) : wI (iRev f σ H) I := by
 obtain ⟨ds, H1, e1, n, xs, rfl, g, q⟩ := h
 refine ⟨_, _, H1, ?_, q⟩
 unfold iRev
 rw [e1]
 simp only [Zb, g]
theorem Ztb {n : Nat} (hn : n ≤ 8) (q : ∀ p H', H'[p]? = some (.lst ((Zg1 n).map Zau)) -> H.length ≤ p -> ExtS [] H H' -> Q (.ref p) H') : wE (Zfg [.int n] H) Q := by
 refine Zbu rfl ?_
 show wS (Zc6 [some (.int n), none, none, none, none, none, none] H) _
 unfold Zc6
 fail "g"
 refine ⟨_, rfl, by unfold Zb3; omega, ?_⟩
 have v0 : Lvs (H ++ [DO.lst [.tup []]]).length [H.length] (H ++ [DO.lst [.tup []]] ++ [DO.lst [.ref H.length]]) := ⟨last, fun i r e => by
  cases i with
  | zero => cases e; exact ⟨by simp, appL last⟩
  | succ i => cases e⟩
 have x0 : ExtS [] H (H ++ [DO.lst [.tup []]] ++ [DO.lst [.ref H.length]]) := (ExtS.app _).trans (.app _)
 have lp : H.length ≤ (H ++ [DO.lst [D.tup []]]).length := by simp
 generalize (H ++ [DO.lst [.tup []]]).length = p at v0 lp ⊢
 generalize H ++ [DO.lst [.tup []]] ++ [DO.lst [.ref H.length]] = H0 at v0 x0 ⊢
 refine Zd1 (fun d t σ H' => ∃ rs, rs.length = d.length + 1 ∧ d.length + t.length = n ∧ Lvs p rs H' ∧ ExtS [p] H0 H' ∧ ∃ z2 z5 z6, σ = [some (.int n), some (.ref p), z2, none, none, z5, z6])
  (fun _ _ _ _ _ => Zko) (fun d x t σ H1 ⟨rs, e1, e2, v, x1, z2, z5, z6, e3⟩ => ?_) (fun d σ H1 ⟨rs, e1, e2, v, x1, z2, z5, z6, e3⟩ => ?_) _ [] _ _ ⟨[H.length], rfl, by simp [Za2], v0, .refl, _, _, _, rfl⟩
 ·subst e3
  simp at e2
  obtain ⟨rs0, r, rfl⟩ : ∃ rs0 r, rs = rs0 ++ [r] := by
   rcases List.eq_nil_or_concat rs with rfl | ⟨a, b, e⟩
   ·simp at e1
   ·exact ⟨a, b, by rw [e, List.concat_eq_append]⟩
  have er : rs0.length = d.length := by simpa using e1
  obtain ⟨rn, gr⟩ := v.2 d.length r (by rw [← er]; simp)
  have el : atI ((rs0 ++ [r]).map D.ref) (-1) = some (.ref r) := by
   rw [List.map_append]
   exact Zxg _ _
  have lv := Zqx (k := d.length) (by omega)
  fail "g"
  refine w_ixR (appL v.1) el ?_
  fail "g"
  refine Zd1 (fun e t' σ H' => ∃ as bs q', lev d.length = as ++ bs ∧ t' = bs.map Zau ∧ ExtS [] (H1 ++ [.lst []]) H' ∧ H'[q']? = some (.lst ((as.flatMap two).map Zau)) ∧ H1.length ≤ q' ∧ ∃ z6, σ = [some (.int n), some (.ref p), some x, none, none, some (.ref q'), z6])
   (fun _ _ _ _ ⟨_, _, _, _, _, x, _⟩ => Zxb (x.old _ _ (by simp) (appL gr))) (fun e y t' σ H2 ⟨as, bs, q', h1, h2, x2, g2, l2, z6, h3⟩ => ?_) (fun e σ H2 ⟨as, bs, q', h1, h2, x2, g2, l2, z6, h3⟩ => ?_) _ [] _ _ ⟨[], lev d.length, _, rfl, rfl, .refl, last, Nat.le_refl _, _, rfl⟩
  ·cases bs with
   | nil => cases h2
   | cons b bs =>
    obtain ⟨rfl, rfl⟩ := List.cons.inj h2
    subst h3
    have lb := Zec d.length b (by rw [h1]; simp)
    have la : (as.flatMap two).length = 2 * as.length := by
     clear g2 h1
     induction as with
     | nil => rfl
     | cons x r ih => rw [List.flatMap_cons, List.length_append, ih]; simp [two]; omega
    have la2 := congrArg List.length h1
    simp at la2
    fail "g"
    refine Zun (appL g2) last (by simp [la]; omega) ?_
    fail "g"
    refine ⟨as ++ [b], bs, _, by rw [h1]; simp, rfl, x2.trans ((ExtS.app _).trans (.app _)), ?_, ?_, _, rfl⟩
    ·rw [List.flatMap_append]
     simpa [two] using last
    ·have := x2.len; simp at this ⊢; omega
  ·have : bs = [] := by cases bs with | nil => rfl | cons _ _ => cases h2
   subst this; subst h3
   rw [List.append_nil] at h1
   subst h1
   have v2 := v.keep ((ExtS.app _).trans x2)
   fail "g"
   refine ⟨isl v2.1, ?_⟩
   fail "g"
   refine Zn2 v2.1 (by simp; omega) ?_
   fail "g"
   have lq : q' ≠ p := by
    have := (List.getElem?_eq_some_iff.mp v.1).1
    omega
   refine ⟨rs0 ++ [r] ++ [q'], by simp [er], by simp; omega, ⟨?_, fun i r' e => ?_⟩, x1.trans (((ExtS.app _).trans (Zvj x2)).trans (.set (by simp))), _, _, _, rfl⟩
   ·rw [List.getElem?_set_self (List.getElem?_eq_some_iff.mp v2.1).1]; simp
   ·by_cases hi : i < (rs0 ++ [r]).length
    ·rw [List.getElem?_append_left hi] at e
     obtain ⟨h4, h5⟩ := v2.2 i r' e
     exact ⟨h4, by rw [List.getElem?_set_ne (Ne.symm h4)]; exact h5⟩
    ·rw [List.getElem?_append_right (by omega)] at e
     have hi2 : i - (rs0 ++ [r]).length = 0 := by have := (List.getElem?_eq_some_iff.mp e).1; simp at this; simp; omega
     rw [hi2] at e
     cases e
     have : i = d.length + 1 := by simp at hi hi2; omega
     subst this
     exact ⟨lq, by rw [List.getElem?_set_ne (Ne.symm lq)]; exact g2⟩
 ·subst e3
  simp at e2
  subst e2
  have X1 : ExtS [] H H1 := ExtS.weak x0 x1 lp
  fail "g"
  refine Zzz ?_
  fail "g"
  refine ⟨_, _, rfl, appL v.1, ?_⟩
  have v1 := v.keep (ExtS.app (S := []) [DO.lst []])
  refine Zd1 (fun e t' σ H' => ∃ j as q', t' = ((rs.take j).map D.ref).reverse ∧ j ≤ rs.length ∧ as ++ lowP j = Zg1 d.length ∧ ExtS [] (H1 ++ [.lst []]) H' ∧ H'[q']? = some (.lst (as.map Zau)) ∧ H1.length ≤ q' ∧ ∃ z4, σ = [some (.int d.length), some (.ref p), z2, some (.ref q'), z4, z5, z6])
   (fun _ _ _ _ ⟨_, _, _, _, _, _, x, _⟩ => Zxb (x.old _ _ (by simp) v1.1)) (fun e y t' σ H2 ⟨j, as, q', h1, h2, h3, x2, g2, l2, z4, h4⟩ => ?_) (fun e σ H2 ⟨j, as, q', h1, h2, h3, x2, g2, l2, z4, h4⟩ => ?_) _ [] _ _ ⟨rs.length, [], _, by simp, Nat.le_refl _, by rw [e1]; rfl, .refl, last, Nat.le_refl _, _, rfl⟩
  ·cases j with
   | zero => simp at h1
   | succ j =>
    obtain ⟨r, hr⟩ : ∃ r, rs[j]? = some r := ⟨rs[j]'(by omega), List.getElem?_eq_getElem _⟩
    rw [List.take_add_one, hr] at h1
    simp at h1
    obtain ⟨rfl, rfl⟩ := h1
    subst h4
    have lv := Zqx (k := j) (by omega)
    have al := Zj4 d.length
    have p8 : 2 ^ (d.length + 1) ≤ 2 ^ 9 := Nat.pow_le_pow_right (by omega) (by omega)
    have la := congrArg List.length h3
    simp at la
    have gr := x2.old _ _ (by simp) (v1.2 j r hr).2
    fail "g"
    refine Zun g2 gr (by simp; omega) ?_
    fail "g"
    refine ⟨j, as ++ lev j, _, by simp, by omega, ?_, x2.trans (.app _), by rw [List.map_append]; exact last, ?_, _, rfl⟩
    ·rw [← h3]
     show _ = as ++ Zg1 j
     rw [Ztm, List.append_assoc]
    ·have := x2.len; simp at this; omega
  ·have hj : j = 0 := by
    cases j with
    | zero => rfl
    | succ j =>
     have := congrArg List.length h1
     simp at this
     omega
   subst hj; subst h4
   have ea : as = Zg1 d.length := by rw [← h3]; simp [lowP]
   subst ea
   fail "g"
   exact q _ _ g2 (by have := X1.len; omega) (X1.trans ((ExtS.app _).trans x2))
theorem Zkw : ∀ k : Nat, (Zg1 k).Pairwise fun a b => b.length ≤ a.length
 | 0 => by simp [Zg1, lev]
 | k + 1 => by
  refine List.pairwise_append.mpr ⟨List.pairwise_of_forall_mem_list fun a ha b hb => ?_, Zkw k, fun a ha b hb => ?_⟩
  ·rw [Zec _ a ha, Zec _ b hb]; exact Nat.le_refl _
  ·have := Zjf k b hb
   rw [Zec _ a ha]; omega
theorem ahead {n : Nat} {done more : List (List Bool)} {bs : List Bool} (e : Zg1 n = done ++ bs :: more) (h : bs.length < n) (t : Bool) : bs ++ [t] ∈ done := by
 have hm := Zqq n (bs ++ [t]) (by simp; omega)
 have hs := Zkw n
 rw [e] at hm hs
 rcases List.mem_append.mp hm with h1 | h1
 ·exact h1
 ·rcases List.mem_cons.mp h1 with h1 | h1
  ·have := congrArg List.length h1; simp at this
  ·have := (List.pairwise_cons.mp (List.pairwise_append.mp hs).2.1).1 _ h1
   simp at this
   omega
theorem Zsz {ks : List D} {rss : List (List Int)} {done : List (List Bool)} {p : Nat} {bs : List Bool} {P : HD -> Prop} (g : H[p]? = some (.dic (done.map (kv ks rss)) false)) (hn : bs ∉ done) (hl : done.length ≤ 10000) (q : P (H.set p (.dic ((done ++ [bs]).map (kv ks rss)) false))) : wH (Zl7 (.ref p) (Zau bs) (FW ks rss bs) H) P := by
 have sz : (done.map (kv ks rss)).length < sizeLine := by rw [PySem.sizeLine_eq, List.length_map]; omega
 have e : Zlw (done.map (kv ks rss)) (Zau bs) (enc bs) (FW ks rss bs) = (done ++ [bs]).map (kv ks rss) := by unfold Zlw; rw [Znf done hn]; simp [kv]
 refine ⟨_, ?_, q⟩
 unfold Zl7
 simp only [g, Zga, Zb, if_pos sz, Option.map_some, e]
theorem Zr3 {ks : List D} {rss : List (List Int)} (c : Cl ks rss) (q : ∀ p H', H'[p]? = some (.dic ((Zg1 ks.length).map (kv ks rss)) false) -> H.length ≤ p -> Fm [] H H' -> Q (.ref p) H') : wE (Zdu [Zay ks rss] H) Q := by
 have h8 := c.h8
 have al := Zj4 ks.length
 have p8 : 2 ^ (ks.length + 1) ≤ 2 ^ 9 := Nat.pow_le_pow_right (by omega) (by omega)
 refine Zbu rfl ?_
 show wS (Zb0 [some (Zay ks rss), none, none, none, none] H) _
 unfold Zb0
 fail "g"
 refine Ztb h8 fun pl H1 g1 l1 x1 => ?_
 have gp := x1.old _ _ (by simp) (last (H := H) (o := .dic [] false))
 simp at l1
 fail "g"
 refine Zd1 (fun d t σ H' => ∃ done more, Zg1 ks.length = done ++ more ∧ t = more.map Zau ∧ H'[H.length]? = some (.dic (done.map (kv ks rss)) false) ∧ ExtS [H.length] H1 H' ∧ ∃ z2 z3 z4, σ = [some (Zay ks rss), some (.ref H.length), z2, z3, z4])
  (fun _ _ _ _ ⟨_, _, _, _, _, x, _⟩ => Zxb (x.old _ _ (by simp; omega) g1)) (fun d x t σ H2 ⟨done, more, e1, e2, g2, x2, z2, z3, z4, e3⟩ => ?_) (fun d σ H2 ⟨done, more, e1, e2, g2, x2, z2, z3, z4, e3⟩ => ?_) _ [] _ _ ⟨[], Zg1 ks.length, rfl, rfl, gp, .refl, _, _, _, rfl⟩
 ·cases more with
  | nil => cases e2
  | cons bs more =>
   obtain ⟨rfl, rfl⟩ := List.cons.inj e2
   subst e3
   have hb := Zjf ks.length bs (by rw [e1]; simp)
   have nd := Zis ks.length
   rw [e1] at nd
   have hn : bs ∉ done := fun z => (List.nodup_append.mp nd).2.2 bs z bs (by simp) rfl
   have hl : done.length ≤ 10000 := by have := congrArg List.length e1; simp at this; omega
   have put : ∀ (H3 : HD) (y2 y3 y4 : Option D), ExtS [H.length] H2 H3 -> H3[H.length]? = some (.dic (done.map (kv ks rss)) false) -> ∃ done' more', Zg1 ks.length = done' ++ more' ∧ more.map Zau = more'.map Zau ∧ (H3.set H.length (.dic ((done ++ [bs]).map (kv ks rss)) false))[H.length]? = some (.dic (done'.map (kv ks rss)) false) ∧ ExtS [H.length] H1 (H3.set H.length (.dic ((done ++ [bs]).map (kv ks rss)) false)) ∧ ∃ z2 z3 z4, [some (Zay ks rss), some (.ref H.length), y2, y3, y4] = [some (Zay ks rss), some (.ref H.length), z2, z3, z4] := fun H3 y2 y3 y4 x3 g3 =>
    ⟨done ++ [bs], more, by rw [e1]; simp, rfl, List.getElem?_set_self (List.getElem?_eq_some_iff.mp g3).1, (x2.trans x3).trans (.set (by simp)), _, _, _, rfl⟩
   fail "i"
   refine ⟨fun h => ?_, fun h => ?_⟩
   ·have h' : bs.length = ks.length := by simp at h; omega
    have fw : FW ks rss bs = Za6 (rss.all (kept bs)) := by unfold FW; rw [h', Nat.sub_self]; unfold W; rfl
    fail "g"
    refine Zq8 (fun d => .bl (kept bs (Zgs d))) (fun H' => H' = H2 ++ [.lst [.str "all", .str "some"]]) (fun _ _ => Zko) _ (fun y hy H3 j => ?_) _ rfl fun H3 j => ?_
    ·obtain ⟨ls, h1, rfl⟩ := List.mem_map.mp hy
     fail "g"
     refine Zq9 (c.pos h1) ?_
     exact ⟨by rw [Zev], j⟩
    ·have em : (rss.map Za1).map (fun d => D.bl (kept bs (Zgs d))) = (rss.map (kept bs)).map .bl := by
      rw [List.map_map, List.map_map]; exact List.map_congr_left fun ls _ => by simp [Zev]
     rw [em]
     subst j
     have hl2 := c.hl
     refine ⟨by simp; omega, ?_⟩
     fail "g"
     refine Zl2 (Zs9 last) ?_
     have ea : (rss.map (kept bs)).all id = rss.all (kept bs) := by rw [List.all_map]; rfl
     rw [ea]
     have x3 : ExtS [H.length] H2 (H2 ++ [.lst [.str "all", .str "some"]] ++ [.lst ((rss.map (kept bs)).map .bl)]) := (ExtS.app _).trans (.app _)
     have g3 := appL (u := .lst ((rss.map (kept bs)).map .bl)) (appL (u := .lst [.str "all", .str "some"]) g2)
     cases hk : rss.all (kept bs) with
     | true =>
      fail "g"
      generalize H2 ++ [DO.lst [.str "all", .str "some"]] ++ [.lst ((rss.map (kept bs)).map .bl)] = H3 at x3 g3 ⊢
      rw [show D.str "some" = FW ks rss bs by rw [fw, hk]; rfl]
      refine Zsz g3 hn hl ?_
      fail "g"
      exact put _ _ _ _ x3 g3
     | false =>
      fail "g"
      generalize H2 ++ [DO.lst [.str "all", .str "some"]] ++ [.lst ((rss.map (kept bs)).map .bl)] = H3 at x3 g3 ⊢
      rw [show D.str "all" = FW ks rss bs by rw [fw, hk]; rfl]
      refine Zsz g3 hn hl ?_
      fail "g"
      exact put _ _ _ _ x3 g3
   ·have h' : bs.length < ks.length := by simp at h; omega
    have fw := Zy7 (ks := ks) (rss := rss) h'
    have gt : ∀ (t : Bool) (Q : D -> HD -> Prop), Q (FW ks rss (bs ++ [t])) H2 -> wE (Zfc (.ref H.length) (Zau (bs ++ [t])) H2) Q := fun t Q q => Zuz g2 (Zga _) (Zm0 done (ahead e1 h' t)) q
    fail "g"
    refine w_ixT (Zcc (Zjv c.hk (by omega))) ?_
    fail "g"
    refine gt _ _ ?_
    fail "g"
    refine gt _ _ ?_
    fail "g"
    generalize kS (ks.getD bs.length .non) = who at fw ⊢
    refine Zl2 (Ya6 (a := W ks rss (ks.length - (bs ++ [false]).length) (bs ++ [false])) (b := W ks rss (ks.length - (bs ++ [true]).length) (bs ++ [true])) last) ?_
    simp only [] at fw
    have g3 := appL (u := .lst [FW ks rss (bs ++ [false]), FW ks rss (bs ++ [true])]) g2
    fail "g"
    refine ⟨fun hc => ?_, fun hc => ?_⟩
    ·rw [if_pos hc] at fw
     fail "g"
     rw [← fw]
     refine Zsz g3 hn hl ?_
     fail "g"
     exact put _ _ _ _ (.app _) g3
    ·rw [if_neg (by rw [hc]; simp)] at fw
     fail "g"
     show wH (Zl7 _ _ (Za6 (W ks rss (ks.length - (bs ++ [false]).length) (bs ++ [false]))) _) _
     rw [← fw]
     refine Zsz g3 hn hl ?_
     fail "g"
     exact put _ _ _ _ (.app _) g3
 ·have : more = [] := by cases more with | nil => rfl | cons _ _ => cases e2
  subst this; subst e3
  rw [List.append_nil] at e1
  rw [← e1] at g2
  fail "g"
  exact q _ _ g2 (Nat.le_refl _) ((ExtS.app _ |>.trans x1).weak x2 (Nat.le_refl _)).fm
theorem Zqi {bs : List Bool} {l : Int} (q : Q (.bl (opn bs l)) H) : wE (Zfq [.int l, Zau bs] H) Q := by
 refine Zbu rfl ?_
 show wS (Zd9 [some (.int l), some (Zau bs)] H) _
 unfold Zd9
 fail "g"
 exact q
theorem Zts {bs : List Bool} {l : Int} (h0 : 0 < Zbo l) (q : Q (.bl (rig bs l)) H) : wE (Zgh [.int l, Zau bs] H) Q := by
 refine Zbu rfl ?_
 show wS (Zdd [some (.int l), some (Zau bs)] H) _
 unfold Zdd
 fail "g"
 refine Zqi ?_
 fail "g"
 refine ⟨fun h => ?_, fun h => ?_⟩
 ·have ho : opn bs l = false := by simpa using h
  have lo : ¬ (bs.length : Int) < Zbo l := fun z => by unfold opn at ho; simp [z] at ho
  obtain ⟨b, hb⟩ : ∃ b, bs[(Zbo l - 1).toNat]? = some b := ⟨bs[(Zbo l - 1).toNat]'(by omega), List.getElem?_eq_getElem _⟩
  have er : rig bs l = (b == decide (0 < l)) := by unfold rig; rw [hb]
  fail "g"
  refine w_ixT (xs := bs.map .bl) (Zf2 (by omega) (by rw [List.getElem?_map, hb]; rfl)) ?_
  fail "g"
  refine Zz0 ?_
  fail "g"
  rw [er] at q; exact q
 ·have ho : opn bs l = true := by simpa using h
  rw [Zrz ho] at q; exact q
theorem Zu6 {bs : List Bool} {ls : List Int} (h : ∀ l ∈ ls, 0 < Zbo l) (q : Q (.bl (kept bs ls)) H) : wE (Zid [Za1 ls, Zau bs] H) Q := by
 refine Zbu rfl ?_
 show wS (Zeb [some (.tup (ls.map .int)), some (Zau bs), none] H) _
 unfold Zeb
 fail "g"
 refine Zd1 (fun d t σ H' => ∃ r : List Int, t = r.map .int ∧ (∀ l ∈ r, 0 < Zbo l) ∧ kept bs r = kept bs ls ∧ H' = H ∧ ∃ z, σ = [some (.tup (ls.map .int)), some (Zau bs), z]) (fun _ _ _ _ _ => Zko) (fun d x t σ H1 ⟨r, e1, e2, e3, e4, z, e5⟩ => ?_) (fun d σ H1 ⟨r, e1, e2, e3, e4, z, e5⟩ => ?_) _ [] _ _ ⟨ls, rfl, h, rfl, rfl, _, rfl⟩
 ·cases r with
  | nil => cases e1
  | cons l r =>
   obtain ⟨rfl, rfl⟩ := List.cons.inj e1
   subst e4; subst e5
   fail "i"
   refine Zts (e2 l (by simp)) ?_
   fail "g"
   have e6 : kept bs (l :: r) = (rig bs l || kept bs r) := by unfold kept; rw [List.any_cons]
   rw [e6] at e3
   refine ⟨fun hh => ?_, fun hh => ?_⟩
   ·fail "g"
    rw [hh] at e3
    rw [← e3] at q; exact q
   ·fail "g"
    rw [hh] at e3
    exact ⟨r, rfl, fun y hy => e2 y (by simp [hy]), e3, rfl, _, rfl⟩
 ·have : r = [] := by cases r with | nil => rfl | cons _ _ => cases e1
  subst this; subst e4; subst e5
  fail "g"
  rw [← e3] at q; exact q
theorem w_ren {l n : Int} (q : Q (.int (ren n l)) H) : wE (Zd6 [.int l, .int n] H) Q := by
 refine Zbu rfl ?_
 show wS (Zco [some (.int l), some (.int n)] H) _
 unfold Zco
 unfold ren at q
 fail "g"
 refine ⟨fun h => ?_, fun h => ?_⟩
 ·fail "g"
  rw [if_pos (by simpa using h)] at q; exact q
 ·fail "g"
  rw [if_neg (by simpa using h)] at q; exact q
theorem Zph {bs : List Bool} {ls : List Int} (hl : ls.length ≤ 1000) (q : ∀ H', Fm [] H H' -> Q (Za1 (Zl8 bs ls)) H') : wE (Zgc [Za1 ls, Zau bs] H) Q := by
 refine Zbu rfl ?_
 show wS (Zdp [some (.tup (ls.map .int)), some (Zau bs)] H) _
 unfold Zdp
 fail "g"
 refine Zua (fun d => match d with | .int l => opn bs l | _ => false) (fun d => match d with | .int l => .int (ren bs.length l) | _ => .non) (fun H' => H' = H) (fun _ _ => Zko) _ (fun x hx H1 j => ?_) (fun x hx _ H1 j => ?_) _ rfl fun H1 j => ?_
 ·obtain ⟨l, hl, rfl⟩ := List.mem_map.mp hx
  subst j
  fail "g"
  refine Zqi ?_
  fail "g"
  exact ⟨rfl, rfl⟩
 ·obtain ⟨l, hl, rfl⟩ := List.mem_map.mp hx
  subst j
  fail "g"
  refine w_ren ?_
  exact ⟨rfl, rfl⟩
 ·have e1 : ((ls.map D.int).filter fun d => match d with | .int l => opn bs l | _ => false).map (fun d => match d with | .int l => D.int (ren bs.length l) | _ => .non) = (Zl8 bs ls).map .int := by
   unfold Zl8 rest
   rw [List.filter_map, List.map_map, List.map_map]; rfl
  rw [e1]
  subst j
  have lr : (Zl8 bs ls).length ≤ 1000 := by unfold Zl8 rest; rw [List.length_map]; exact Nat.le_trans (List.length_filter_le _ _) hl
  fail "g"
  exact q _ (Fm.app _)
theorem Ya5 {ks : List D} {rss : List (List Int)} {bs : List Bool} (c : Cl ks rss) (q : ∀ H', Fm [] H H' -> Q (Zay (ks.drop bs.length) (Zdb bs rss)) H') : wE (Zqk [Zay ks rss, Zau bs] H) Q := by
 have hl := c.hl
 refine Zbu rfl ?_
 show wS (Zk4 [some (Zay ks rss), some (Zau bs), none] H) _
 unfold Zk4
 fail "g"
 refine Zua (fun d => !kept bs (Zgs d)) (fun d => Za1 (Zl8 bs (Zgs d))) (fun H' => Fm [] H H') (fun _ _ => Zko) _ (fun x hx H1 j => ?_) (fun x hx _ H1 j => ?_) _ Fm.refl fun H1 j => ?_
 ·obtain ⟨ls, hl, rfl⟩ := List.mem_map.mp hx
  fail "g"
  refine Zu6 (c.pos hl) ?_
  fail "g"
  exact ⟨by rw [Zev], j⟩
 ·obtain ⟨ls, hl, rfl⟩ := List.mem_map.mp hx
  fail "g"
  refine Zph (by have := c.len9 hl; omega) fun H2 x2 => ?_
  exact ⟨by rw [Zev], j.trans x2⟩
 ·have e1 : ((rss.map Za1).filter fun d => !kept bs (Zgs d)).map (fun d => Za1 (Zl8 bs (Zgs d))) = (Zdb bs rss).map Za1 := by
   unfold Zdb
   rw [List.filter_map, List.map_map, List.map_map]
   have : ((fun d => !kept bs (Zgs d)) ∘ Za1) = fun ls => !kept bs ls := by funext ls; simp [Zev]
   rw [this]
   exact List.map_congr_left fun x _ => by simp [Zev]
  rw [e1]
  have lr : (Zdb bs rss).length ≤ 1000 := by unfold Zdb; rw [List.length_map]; exact Nat.le_trans (List.length_filter_le _ _) hl
  fail "g"
  exact q _ (j.trans (Fm.app _))
variable {H : HD} {Q : D -> HD -> Prop} {ks : List D} {rss : List (List Int)} {bs : List Bool} {n : Nat}
noncomputable def Zbe (ks : List D) (rss : List (List Int)) (bs : List Bool) : DO := .obj "Match" [("begun", Zay ks rss), ("picked", Zau bs)]
theorem Zx2 (g : H[n]? = some (.obj "Match" [])) (q : Q .non (H.set n (Zbe ks rss []))) : wE (Zd8 [.ref n, Zay ks rss] H) Q := by
 have ln : n < H.length := (List.getElem?_eq_some_iff.mp g).1
 refine Zbu rfl ?_
 show wS (Zcm [some (.ref n), some (Zay ks rss)] H) _
 unfold Zcm
 refine w_seq (Znu (w_var rfl (w_var rfl ⟨n, _, rfl, g, by simp, ?_⟩)))
 refine w_kn (w_seq (Znu (w_tup (w_anil (w_sz (by simp) (w_var rfl ⟨n, _, rfl, List.getElem?_set_self ln, by simp [Zvu], ?_⟩))))))
 fail "g"
 rw [List.set_set]
 exact q
theorem Zv9 (g : H[n]? = some (Zbe ks rss bs)) (q : Q (Zau bs) H) : wE (Zed [.ref n] H) Q := by
 refine Zbu rfl ?_
 show wS (Zci [some (.ref n)] H) _
 unfold Zci
 refine w_seq (w_ret (Zdf (w_var rfl ⟨n, _, rfl, g, _, rfl, ?_⟩)))
 fail "g"
 exact q
theorem Yaq (c : Cl ks rss) (hb : bs.length ≤ ks.length) (g : H[n]? = some (Zbe ks rss bs)) (q : ∀ H', Fm [] H H' -> Q (FW ks rss bs) H') : wE (Zfe [.ref n] H) Q := by
 refine Zbu rfl ?_
 show wS (Zc0 [some (.ref n)] H) _
 unfold Zc0
 refine w_seq (w_ret (w_call (w_acons (Zdf (w_var rfl ⟨n, _, rfl, g, _, rfl, w_acons (Zdf (w_var rfl ⟨n, _, rfl, g, _, rfl, ?_⟩))⟩)))))
 fail "g"
 refine Zm4 c hb fun H1 x1 => ?_
 fail "g"
 exact q _ x1
theorem Zxw (c : Cl ks rss) (hb : bs.length ≤ ks.length) (g : H[n]? = some (Zbe ks rss bs)) (q : ∀ p H', H'[p]? = some (.lst ((gp ks rss bs).map .bl)) -> H.length ≤ p -> Fm [] H H' -> Q (.ref p) H') : wE (Zef [.ref n] H) Q := by
 refine Zbu rfl ?_
 show wS (Zch [some (.ref n)] H) _
 unfold Zch
 refine w_seq (w_ret (w_call (w_acons (Zdf (w_var rfl ⟨n, _, rfl, g, _, rfl, w_acons (Zdf (w_var rfl ⟨n, _, rfl, g, _, rfl, ?_⟩))⟩)))))
 fail "g"
 refine Zya c hb fun p H1 g1 l1 x1 => ?_
 fail "g"
 exact q _ _ g1 l1 x1
theorem Zvq (c : Cl ks rss) (g : H[n]? = some (Zbe ks rss bs)) (q : ∀ H', Fm [] H H' -> Q (Zay (ks.drop bs.length) (Zdb bs rss)) H') : wE (Zee [.ref n] H) Q := by
 refine Zbu rfl ?_
 show wS (Zce [some (.ref n)] H) _
 unfold Zce
 refine w_seq (w_ret (w_call (w_acons (Zdf (w_var rfl ⟨n, _, rfl, g, _, rfl, w_acons (Zdf (w_var rfl ⟨n, _, rfl, g, _, rfl, ?_⟩))⟩)))))
 fail "g"
 refine Ya5 c fun H1 x1 => ?_
 fail "g"
 exact q _ x1
noncomputable def Zsd (ks : List D) (bs : List Bool) : D := if bs.length = ks.length then .non else Za6 (kS (ks.getD bs.length .non))
theorem Zvp (c : Cl ks rss) (hb : bs.length ≤ ks.length) (g : H[n]? = some (Zbe ks rss bs)) (q : Q (Zsd ks bs) H) : wE (Zd7 [.ref n] H) Q := by
 refine Zbu rfl ?_
 show wS (Zck [some (.ref n)] H) _
 unfold Zck
 refine w_seq (w_if (w_tof (w_op (w_cb (w_acons (Zdf (w_var rfl ⟨n, _, rfl, g, _, rfl, ?_⟩)))))))
 fail "g"
 refine Zdf (w_var rfl ⟨n, _, rfl, g, _, rfl, ?_⟩)
 fail "g"
 unfold Zsd at q
 refine ⟨fun h => ?_, fun h => ?_⟩
 ·have h' : bs.length = ks.length := by simp at h; omega
  rw [if_pos h'] at q
  fail "g"
  exact q
 ·have h' : bs.length ≠ ks.length := by simp at h; omega
  rw [if_neg h'] at q
  refine w_snil (w_kn (w_seq (w_ret (w_op (w_op (Zdf (w_var rfl ⟨n, _, rfl, g, _, rfl, ?_⟩)))))))
  fail "g"
  refine Zdf (w_var rfl ⟨n, _, rfl, g, _, rfl, ?_⟩)
  fail "g"
  refine w_ixT (Zcc (Zjv c.hk (by omega))) ?_
  fail "g"
  exact q
theorem Zg2 {t : Bool} (q : Q (.bl true) H) : wE (Zcy [.bl t] H) Q := by
 refine Zbu rfl ?_
 show wS (Zb8 [some (.bl t)] H) _
 unfold Zb8
 cases t with
 | true => fail "g"; exact q
 | false => fail "g"; exact q
theorem Zxy {t : Bool} (c : Cl ks rss) (hb : bs.length < ks.length) (g : H[n]? = some (Zbe ks rss bs)) (q : Q .non (H.set n (Zbe ks rss (bs ++ [t])))) : wE (Zcn [.ref n, .bl t] H) Q := by
 have h8 := c.h8
 refine Zbu rfl ?_
 show wS (Zba [some (.ref n), some (.bl t)] H) _
 unfold Zba
 refine w_seq (w_if ?_)
 fail "g"
 refine Zg2 ?_
 fail "g"
 refine w_if (w_tof (w_op (w_cb (w_acons (Zdf (w_var rfl ⟨n, _, rfl, g, _, rfl, ?_⟩))))))
 fail "g"
 refine Zdf (w_var rfl ⟨n, _, rfl, g, _, rfl, ?_⟩)
 fail "g"
 refine w_bF (by simp; omega) ?_
 refine w_snil (w_kn (w_seq (Znu (w_op (Zdf (w_var rfl ⟨n, _, rfl, g, _, rfl, ?_⟩))))))
 fail "g"
 refine ⟨n, _, rfl, g, by simp, ?_⟩
 fail "g"
 exact q
theorem Zrm (xs : List D) (x : D) : slD (.tup (xs ++ [x])) none (some (-1)) H = some (.tup xs, H) := by
 have e : Zkf (xs ++ [x]) none (some (-1)) = xs := by
  unfold Zkf HT.sIx
  simp
  rw [show (-1 + ((xs.length : Int) + 1)).toNat = xs.length by omega]
  simp
 simp only [slD, e]
theorem Zpg {b : List Bool} {t : Bool} (q : Q (Zau b) H) : wE (slD (Zau (b ++ [t])) none (some (-1)) H) Q := ⟨_, _, by unfold Zau; rw [List.map_append]; exact Zrm _ _, q⟩
theorem Zwu {t : Bool} (g : H[n]? = some (Zbe ks rss (bs ++ [t]))) (q : Q .non (H.set n (Zbe ks rss bs))) : wE (Zc9 [.ref n] H) Q := by
 refine Zbu rfl ?_
 show wS (Zbm [some (.ref n)] H) _
 unfold Zbm
 refine w_seq (w_if (w_tof (w_op (w_cb (w_acons (Zdf (w_var rfl ⟨n, _, rfl, g, _, rfl, ?_⟩)))))))
 fail "g"
 refine w_bF (by simp; omega) ?_
 refine w_snil (w_kn (w_seq (Znu (w_sl (Zdf (w_var rfl ⟨n, _, rfl, g, _, rfl, ?_⟩))))))
 fail "g"
 refine Zpg ?_
 fail "g"
 refine ⟨n, _, rfl, g, by simp, ?_⟩
 fail "g"
 exact q
theorem Zuo {ks : List D} {rss : List (List Int)} {bs : List Bool} {p : Nat} {fz : Bool} (hp : H[p]? = some (.dic ((Zg1 ks.length).map (kv ks rss)) fz)) (hb : bs.length ≤ ks.length) (q : Q (FW ks rss bs) H) : wE (Zfc (.ref p) (Zau bs) H) Q :=
 Zuz hp (Zga bs) (Zm0 _ (Zqq _ _ hb)) q
theorem Zni (bs : List Bool) (hl : bs.length ≤ 100) : ∃ t : Str, ∀ (H : HD) (p : Nat), H[p]? = some (.lst (bs.map .bl)) -> Zd4 [.ref p] H = some (.str t, H) := by
 obtain ⟨ps, e, a1, a2, a3, a4, a5, a6⟩ := Zqp (H := []) (n := 0) (w := 40) (dp := 0) (bs.map .bl) fun d hd => by
  obtain ⟨b, _, rfl⟩ := List.mem_map.mp hd
  obtain ⟨x, e, s⟩ := Za3.bl (b := b)
  exact ⟨x, e [] 0, s⟩
 have same : ∀ (cs : List Bool) (H : HD) (n m : Nat), Ze9 H n (cs.map .bl) = Ze9 [] m (cs.map .bl) := by
  intro cs H n m
  induction cs with
  | nil => rw [List.map_nil, Ze9, Ze9]
  | cons c r ih => rw [List.map_cons, Ze9, Ze9, Ziv, Ziv, ih]
 have s : Sh (.list ps) 100000 1 := ⟨a1, a2, Nat.succ_le_succ a3, a4, by
  refine Nat.le_trans a5 ?_
  rw [List.length_map]
  omega⟩
 refine ⟨(PyData.list ps).shown, fun H p h => ?_⟩
 unfold Zd4
 have t : toP H 30 (.ref p) = some (.list ps) := by
  rw [toP]
  simp only [h]
  rw [same bs H 29 0, e]; rfl
 simp only [t, Zb, if_pos (s.can (Nat.le_refl _) (by omega))]
theorem Zum (ks : List D) (rss : List (List Int)) (bs : List Bool) : (gp ks rss bs).length ≤ 2 := by
 unfold gp
 split
 ·simp
 ·exact Nat.le_trans (List.length_filter_le _ _) (by simp)
noncomputable def Yad (d : D) : Prop := ∀ b, d ≠ .bl b
theorem Zu3 {d : D} {b : Bool} (h : Yad d) (q : Q (.bl false) H) : wE (isD d (.bl b) H) Q := by
 refine ⟨_, _, ?_, q⟩
 unfold isD isB
 cases d with
 | bl c => exact absurd rfl (h c)
 | _ => rfl
theorem Znj {d : D} (h : Yad d) (q : Q (.bl false) H) : wE (Zcy [d] H) Q := by
 refine Zbu rfl ?_
 show wS (Zb8 [some d] H) _
 unfold Zb8
 fail "g"
 refine Zu3 h ?_
 fail "g"
 refine Zu3 h ?_
 fail "g"
 exact q
theorem Zx4 {d : D} (h : Yad d) : Zcn [.ref n, d] H = none ∧ wH (Zbg [.ref n, d] H) fun H' => H' = H := by
 constructor
 ·refine Zw2 rfl ?_
  show Zba [some (.ref n), some d] H = none
  unfold Zba
  refine Zot (n_if ?_)
  fail "g"
  refine Znj h ?_
  fail "g"
  exact Zxo
 ·refine Zn0 rfl ?_
  show wH (Zao [some (.ref n), some d] H) _
  unfold Zao
  refine x_or1 (x_if ?_)
  fail "g"
  refine Znj h ?_
  fail "g"
  refine ⟨rfl, Zl5 ?_⟩
  fail "g"
  rfl
theorem Zpp {σ : SD} {t : Bool} {P : Bool → HD → Prop} (g : H[n]? = some (Zbe ks rss bs)) (hb : bs.length = ks.length) (e : σ = [some (.ref n), some (.bl t)]) (q : P true H) : wT (tOf (eOp eqD (eCB Zb5 (Zaa (Zg7 "Match" (Zac 0) "picked") Zae)) (eCB Zb5 (Zaa (eOp ixD (Zg7 "Match" (Zac 0) "begun") (eC (.int 0))) Zae))) σ H) P := by
 subst e
 refine w_tof (w_op (w_cb (w_acons (Zdf (w_var rfl ⟨n, _, rfl, g, _, rfl, ?_⟩)))))
 fail "g"
 refine Zdf (w_var rfl ⟨n, _, rfl, g, _, rfl, ?_⟩)
 fail "g"
 rw [hb]
 simpa using q
theorem Zre {t : Bool} (g : H[n]? = some (Zbe ks rss bs)) (hb : bs.length = ks.length) : Zcn [.ref n, .bl t] H = none ∧ wH (Zbg [.ref n, .bl t] H) fun H' => H' = H := by
 constructor
 ·refine Zw2 rfl ?_
  show Zba [some (.ref n), some (.bl t)] H = none
  unfold Zba
  refine Zze (w_if ?_)
  fail "g"
  refine Zg2 ?_
  fail "g"
  refine Zot (n_if (Zpp g hb rfl ?_))
  exact ⟨fun _ => Zxo, fun z => by cases z⟩
 ·refine Zn0 rfl ?_
  show wH (Zao [some (.ref n), some (.bl t)] H) _
  unfold Zao
  refine x_or2 (x_ifN ?_) (x_seq (w_if ?_))
  ·fail "g"
   refine Zg2 ?_
   fail "g"
   rfl
  ·fail "g"
   refine Zg2 ?_
   fail "g"
   refine x_if (Zpp g hb rfl ⟨rfl, Zl5 ?_⟩)
   fail "g"
   rfl
theorem Zxq (g : H[n]? = some (Zbe ks rss [])) : Zc9 [.ref n] H = none ∧ wH (Zbs [.ref n] H) fun H' => H' = H := by
 constructor
 ·refine Zw2 rfl ?_
  show Zbm [some (.ref n)] H = none
  unfold Zbm
  refine Zot (n_if (w_tof (w_op (w_cb (w_acons (Zdf (w_var rfl ⟨n, _, rfl, g, _, rfl, ?_⟩)))))))
  fail "g"
  exact Zxo
 ·refine Zn0 rfl ?_
  show wH (Zaz [some (.ref n)] H) _
  unfold Zaz
  refine x_if (w_tof (w_op (w_cb (w_acons (Zdf (w_var rfl ⟨n, _, rfl, g, _, rfl, ?_⟩))))))
  fail "g"
  refine ⟨rfl, Zl5 ?_⟩
  fail "g"
  rfl
theorem Zj2 {bs : List Bool} {p : Nat} (g : H[p]? = some (.lst (bs.map .bl))) : DL.dat (.ref p) H = some (.list (bs.map .bool)) := Fines.dat (Zf6 bs) (by omega) g
theorem Zue {p : Nat} {bs : List Bool} {b : Bool} (g : H[p]? = some (.lst (bs.map .bl))) (q : Q (.int (bs.countP (· == b) : Nat)) H) : wE (Zh4 (.ref p) [.bl b] H) Q := by
 refine ⟨_, _, ?_, q⟩
 unfold Zh4
 simp only [g]
 rw [Zj2 g, Zb, Fine.dat (Fine.bl b) (by omega), Zb]
 simp only [Zen, Option.map_some, List.countP_map]
 congr 4
theorem Zy6 {p : Nat} {bs : List Bool} {b : Bool} {j : Nat} (g : H[p]? = some (.lst (bs.map .bl))) (hj : bs.findIdx? (· == b) = some j) (h : j ≤ 1000) (q : Q (.int (j : Nat)) H) : wE (Zhj (.ref p) [.bl b] H) Q := by
 refine ⟨_, _, ?_, q⟩
 unfold Zhj
 dsimp only
 rw [g]
 dsimp only
 rw [Zj2 g, Zb, Fine.dat (Fine.bl b) (by omega), Zb]
 show (Zen (PyData.list _)).bind _ = _
 rw [show Zen (PyData.list (bs.map PyData.bool)) = some (bs.map PyData.bool) from rfl, Zb, List.findIdx?_map]
 have e : (fun z => PyData.eqv z (.bool b)) ∘ PyData.bool = fun c => c == b := by
  funext c
  simp [PyData.eqv]
 rw [e, hj, Zb, if_pos (by omega)]
noncomputable def Deed (ks : List D) (bs : List Bool) (wd : Str) (d : D) (due : Str) (bs' : List Bool) : Prop :=
 (wd = "back" ∧ ((bs = [] ∧ due = "back" ∧ bs' = []) ∨ ∃ t, bs = bs' ++ [t] ∧ due = "")) ∨
 (wd ≠ "back" ∧ ((Yad d ∧ due = "pick" ∧ bs' = bs) ∨ ∃ t, d = .bl t ∧ ((bs.length = ks.length ∧ due = "pick" ∧ bs' = bs) ∨ (bs.length < ks.length ∧ due = "" ∧ bs' = bs ++ [t]))))
theorem Zyc {wd due : Str} {d : D} {t : Str} {bs' : List Bool} (c : Cl ks rss) (g : H[n]? = some (Zbe ks rss bs)) (ht : ∀ H', Fm [n] H H' -> Zd4 [d] H' = some (.str t, H')) (D : Deed ks bs wd d due bs')
  (q : ∀ H', H'[n]? = some (Zbe ks rss bs') -> Fm [n] H H' -> Q (.str due) H') : wE (Zes [.ref n, .str wd, d] H) Q := by
 have ln : n < H.length := (List.getElem?_eq_some_iff.mp g).1
 refine Zbu rfl ?_
 show wS (Zdg [some (.ref n), some (.str wd), some d, none, none, none, none, none, none] H) _
 unfold Zdg
 fail "g"
 refine Zl2 (ht H .refl) ?_
 fail "g"
 refine Zqa (fun σ H' => Fm [n] H H' ∧ H'[n]? = some (Zbe ks rss bs') ∧ ((due = "" ∧ σ = [some (.ref n), some (.str wd), some d, some .non, some .non, some (.str t), none, none, none]) ∨ ∃ p cn, H'[p]? = some (.exc cn) ∧ ((cn = "NoBack" ∧ due = "back") ∨ (cn = "NoPick" ∧ due = "pick")) ∧ σ = [some (.ref n), some (.str wd), some d, some (.ref p), some .non, some (.str t), none, none, none])) ?_ ?_
 ·have setN : ∀ o, (H.set n o)[n]? = some o := fun o => List.getElem?_set_self ln
  rcases D with ⟨rfl, D⟩ | ⟨hw, D⟩
  ·rcases D with ⟨rfl, rfl, rfl⟩ | ⟨t', rfl, rfl⟩
   ·obtain ⟨e1, e2⟩ := Zxq g
    refine Zpr (Zot (Zxn (Zv0 ?_))) (by simp) (Zws ?_)
    ·fail "g"
     exact Zrf (w_var rfl ⟨n, _, rfl, g, rfl, w_anil ⟨rfl, e1⟩⟩)
    ·fail "g"
     refine Zly (w_var rfl ⟨n, _, rfl, g, rfl, w_anil ⟨rfl, ?_⟩⟩)
     obtain ⟨H1, e2, rfl⟩ := e2
     refine ⟨H1, e2, ?_⟩
     fail "g"
     exact ⟨rfl, .app _, appL g, .inr ⟨_, _, last, .inl ⟨rfl, rfl⟩, rfl⟩⟩
   ·refine Zuv ?_
    fail "g"
    refine Zhk (w_var rfl ⟨n, _, rfl, g, rfl, w_anil ⟨rfl, Zwu g ?_⟩⟩)
    fail "g"
    exact ⟨rfl, .set (by simp), setN _, .inl ⟨rfl, rfl⟩⟩
  ·have hw' : (wd == ("back" : Str)) = false := by simpa using hw
   rcases D with ⟨hd, rfl, rfl⟩ | ⟨t', rfl, ⟨hl, rfl, rfl⟩ | ⟨hl, rfl, rfl⟩⟩
   ·obtain ⟨e1, e2⟩ := Zx4 (n := n) (H := H) hd
    refine Zpr (Zot (Zxn (Zv0 ?_))) (by simp) (Zws ?_)
    ·fail "g"
     rw [hw']
     fail "g"
     refine Zrf (w_var rfl ⟨n, _, rfl, g, rfl, ?_⟩)
     fail "g"
     exact ⟨rfl, e1⟩
    ·fail "g"
     rw [hw']
     fail "g"
     refine Zly (w_var rfl ⟨n, _, rfl, g, rfl, ?_⟩)
     fail "g"
     refine ⟨rfl, ?_⟩
     obtain ⟨H1, e2, rfl⟩ := e2
     refine ⟨H1, e2, ?_⟩
     fail "g"
     exact ⟨rfl, .app _, appL g, .inr ⟨_, _, last, .inr ⟨rfl, rfl⟩, rfl⟩⟩
   ·obtain ⟨e1, e2⟩ := Zre (t := t') g hl
    refine Zpr (Zot (Zxn (Zv0 ?_))) (by simp) (Zws ?_)
    ·fail "g"
     rw [hw']
     fail "g"
     refine Zrf (w_var rfl ⟨n, _, rfl, g, rfl, ?_⟩)
     fail "g"
     exact ⟨rfl, e1⟩
    ·fail "g"
     rw [hw']
     fail "g"
     refine Zly (w_var rfl ⟨n, _, rfl, g, rfl, ?_⟩)
     fail "g"
     refine ⟨rfl, ?_⟩
     obtain ⟨H1, e2, rfl⟩ := e2
     refine ⟨H1, e2, ?_⟩
     fail "g"
     exact ⟨rfl, .app _, appL g, .inr ⟨_, _, last, .inr ⟨rfl, rfl⟩, rfl⟩⟩
   ·refine Zuv ?_
    fail "g"
    rw [hw']
    fail "g"
    refine Zhk (w_var rfl ⟨n, _, rfl, g, rfl, ?_⟩)
    fail "g"
    refine ⟨rfl, Zxy c hl g ?_⟩
    fail "g"
    exact ⟨rfl, .set (by simp), setN _, .inl ⟨rfl, rfl⟩⟩
 ·rintro σ H1 ⟨x1, g1, D1⟩
  rcases D1 with ⟨rfl, rfl⟩ | ⟨p, cn, gp, D2, rfl⟩
  ·fail "i"
   refine Zl2 (ht H1 x1) ?_
   fail "g"
   rw [show (t != t) = false from by simp]
   fail "i"
   fail "g"
   exact q _ (appL g1) (x1.trans (.app _))
  ·fail "i"
   refine Zl2 (ht H1 x1) ?_
   fail "g"
   rw [show (t != t) = false from by simp]
   fail "i"
   fail "g"
   rcases D2 with ⟨rfl, rfl⟩ | ⟨rfl, rfl⟩
   ·refine Zkt (w_var rfl ⟨p, _, _, rfl, gp, rfl, ?_⟩)
    fail "g"
    refine Zkt (w_var rfl ⟨p, _, _, rfl, gp, rfl, ?_⟩)
    fail "g"
    refine Zkt (w_var rfl ⟨p, _, _, rfl, gp, rfl, ?_⟩)
    fail "i"
    fail "g"
    refine Zkt (w_var rfl ⟨p, _, _, rfl, appL gp, rfl, ?_⟩)
    fail "g"
    refine ⟨isl last, ?_⟩
    fail "g"
    refine Zue (bs := [true, false]) last ?_
    fail "g"
    refine ⟨isl (appL last), ?_⟩
    fail "g"
    refine Zy6 (bs := [true, false]) (j := 0) (appL last) rfl (by omega) ?_
    fail "g"
    exact q _ (appL (appL g1)) ((x1.trans (.app _)).trans (.app _))
   ·refine Zkt (w_var rfl ⟨p, _, _, rfl, gp, rfl, ?_⟩)
    fail "g"
    refine Zkt (w_var rfl ⟨p, _, _, rfl, gp, rfl, ?_⟩)
    fail "g"
    refine Zkt (w_var rfl ⟨p, _, _, rfl, gp, rfl, ?_⟩)
    fail "i"
    fail "g"
    refine Zkt (w_var rfl ⟨p, _, _, rfl, appL gp, rfl, ?_⟩)
    fail "g"
    refine ⟨isl last, ?_⟩
    fail "g"
    refine Zue (bs := [false, true]) last ?_
    fail "g"
    refine ⟨isl (appL last), ?_⟩
    fail "g"
    refine Zy6 (bs := [false, true]) (j := 1) (appL last) rfl (by omega) ?_
    fail "g"
    exact q _ (appL (appL g1)) ((x1.trans (.app _)).trans (.app _))
theorem Zpu (bs : List Bool) (a : List (List Int)) (ls : List Int) : Zdb bs (a ++ [ls]) = Zdb bs a ++ (if kept bs ls then [] else [Zl8 bs ls]) := by
 unfold Zdb
 rw [List.filter_append, List.map_append]
 cases e : kept bs ls <;> simp [e]
theorem Zwd (c : Cl ks rss) (q : ∀ H', Fm [] H H' -> Q (Zay (ks.drop bs.length) (Zdb bs rss)) H') (hb : bs.length ≤ 8) : wE (Zgb [Zay ks rss, Zau bs] H) Q := by
 have hl := c.hl
 have h8 := c.h8
 refine Zbu rfl ?_
 show wS (Zdj [some (Zay ks rss), some (Zau bs), none, none, none] H) _
 unfold Zdj
 fail "g"
 refine Zd1 (fun d t σ H' => ∃ r1 r2, rss = r1 ++ r2 ∧ t = r2.map Za1 ∧ Fm [H.length] (H ++ [.lst []]) H' ∧ H'[H.length]? = some (.lst ((Zdb bs r1).map Za1)) ∧ ∃ z3 z4, σ = [some (Zay ks rss), some (Zau bs), some (.ref H.length), z3, z4]) (fun _ _ _ _ _ => Zko) (fun d x t σ H1 ⟨r1, r2, e1, e2, x1, g1, z3, z4, e3⟩ => ?_) (fun d σ H1 ⟨r1, r2, e1, e2, x1, g1, z3, z4, e3⟩ => ?_) _ [] _ _ ⟨[], rss, rfl, rfl, .refl, by simp [Zdb], _, _, rfl⟩
 ·cases r2 with
  | nil => cases e2
  | cons ls r2 =>
   obtain ⟨rfl, rfl⟩ := List.cons.inj e2
   have lm : ls ∈ rss := by rw [e1]; simp
   have lp := c.pos lm
   have l9 := c.len9 lm
   have lr : r1.length ≤ 1000 := by have := congrArg List.length e1; simp at this; omega
   have lr2 : (Zdb bs r1).length ≤ 1000 := by unfold Zdb; rw [List.length_map]; exact Nat.le_trans (List.length_filter_le _ _) lr
   subst e3
   have ra := Zpu bs r1 ls
   fail "i"
   refine Zq9 lp ?_
   fail "g"
   refine ⟨fun hk => ?_, fun hk => ?_⟩
   ·have hk : kept bs ls = false := by simpa using hk
    rw [hk] at ra
    fail "g"
    refine ⟨_, _, rfl, ?_⟩
    refine Zea (fun d => match d with | .int l => opn bs l | _ => false) (fun H' => H' = H1) (fun _ _ => Zko) _ (fun y hy H2 j => ?_) _ rfl fun H2 j => ?_
    ·obtain ⟨l, hl, rfl⟩ := List.mem_map.mp hy
     subst j
     fail "g"
     exact ⟨rfl, rfl⟩
    ·subst j
     have ef : (ls.map D.int).filter (fun d => match d with | .int l => opn bs l | _ => false) = (rest bs ls).map .int := by
      unfold rest
      rw [List.filter_map]; rfl
     rw [ef]
     have lrr : (rest bs ls).length ≤ 9 := by unfold rest; exact Nat.le_trans (List.length_filter_le _ _) (by omega)
     refine ⟨by simp; omega, ?_⟩
     fail "g"
     refine ⟨isl (appL g1), ?_⟩
     fail "g"
     refine Zq8 (fun d => match d with | .int l => .int (ren bs.length l) | _ => .non) (fun H' => Fm [] (H2 ++ [.lst ((rest bs ls).map .int)]) H') (fun H' x => Zxb (x.lst (by simp) last)) _ (fun y hy H3 x3 => ?_) _ .refl fun H3 x3 => ?_
     ·obtain ⟨l, hl, rfl⟩ := List.mem_map.mp hy
      have lo : opn bs l = true := by unfold rest at hl; exact (List.mem_filter.mp hl).2
      have lo2 : (bs.length : Int) < Zbo l := by unfold opn at lo; simpa using lo
      have l0 : l ≠ 0 := by rintro rfl; unfold Zbo at lo2; simp at lo2; omega
      have lb : Zbo l ≤ 1000 := by
       have := (Zno ls 0 (Int.le_refl _) (c.hu ls lm) l (by unfold rest at hl; exact (List.mem_filter.mp hl).1)).2
       omega
      have lbb : -1000 ≤ l ∧ l ≤ 1000 := by unfold Zbo at lb; split at lb <;> omega
      by_cases hn : l < 0
      ·have ed : decide (l < 0) = true := by simpa using hn
       fail "g"
       rw [ed]
       fail "g"
       refine ⟨?_, x3.trans (.app _)⟩
       simp only [ren]
       rw [if_neg (by omega)]
       congr 1; omega
      ·have ed : decide (l < 0) = false := by simpa using hn
       fail "g"
       rw [ed]
       fail "g"
       refine ⟨?_, x3.trans (.app _)⟩
       simp only [ren]
       rw [if_pos (by omega)]
       congr 1; omega
     ·have em : ((rest bs ls).map D.int).map (fun d => match d with | .int l => D.int (ren bs.length l) | _ => .non) = (Zl8 bs ls).map .int := by
       unfold Zl8
       rw [List.map_map, List.map_map]; rfl
      rw [em]
      have lrl : (Zl8 bs ls).length ≤ 9 := by unfold Zl8; rw [List.length_map]; exact lrr
      have g3 := x3.lst (m := H.length) (by simp) (appL g1)
      refine ⟨by simp; omega, ?_⟩
      fail "g"
      refine Zn2 (appL g3) (by simp; omega) ?_
      fail "g"
      refine ⟨r1 ++ [ls], r2, by rw [e1]; simp, rfl, ?_, ?_, _, _, rfl⟩
      ·exact ((x1.trans (.app _)).trans (x3.sub (by simp))).trans ((Fm.app _).trans (.set (by simp)))
      ·rw [ra, List.getElem?_set_self (by have := (List.getElem?_eq_some_iff.mp g3).1; simp; omega)]
       simp [Za1]
   ·have hk : kept bs ls = true := by simpa using hk
    rw [hk] at ra
    fail "g"
    exact ⟨r1 ++ [ls], r2, by rw [e1]; simp, rfl, x1, by rw [ra]; simpa using g1, _, _, rfl⟩
 ·have e0 : r2 = [] := by cases r2 with | nil => rfl | cons _ _ => cases e2
  subst e0
  subst e3
  rw [List.append_nil] at e1
  subst e1
  have lr2 : (Zdb bs rss).length ≤ 1000 := by unfold Zdb; rw [List.length_map]; exact Nat.le_trans (List.length_filter_le _ _) hl
  fail "g"
  exact q _ ((Fm.app _).new x1 (by simp))
noncomputable def Zzo (ks : List D) (rss : List (List Int)) (bs : List Bool) (pg : Nat) : List D := [Zau bs, Zsd ks bs, FW ks rss bs, .ref pg, Zay (ks.drop bs.length) (Zdb bs rss)]
theorem Zqn {pw : Nat} {fz : Bool} (c : Cl ks rss) (hb : bs.length ≤ ks.length) (gw : H[pw]? = some (.dic ((Zg1 ks.length).map (kv ks rss)) fz))
  (q : ∀ p pg H', H'[p]? = some (.lst (Zzo ks rss bs pg)) -> H'[pg]? = some (.lst ((gp ks rss bs).map .bl)) -> H.length ≤ p -> H.length ≤ pg -> Fm [] H H' -> Q (.ref p) H') : wE (Zcv [Zay ks rss, .ref pw, Zau bs] H) Q := by
 have h8 := c.h8
 refine Zbu rfl ?_
 show wS (Zdm [some (Zay ks rss), some (.ref pw), some (Zau bs), none, none] H) _
 unfold Zdm
 fail "g"
 refine Zqa (fun σ H' => Fm [] H H' ∧ ∃ pg, H.length ≤ pg ∧ H'[pg]? = some (.lst ((gp ks rss bs).map .bl)) ∧ σ = [some (Zay ks rss), some (.ref pw), some (Zau bs), some (Zsd ks bs), some (.ref pg)]) ?_ ?_
 ·(refine WP.w_if ?_; fail "g")
  refine ⟨fun h => ?_, fun h => ?_⟩
  ·have h' : bs.length ≠ ks.length := by simp at h; omega
   have et : Zsd ks bs = Za6 (kS (ks.getD bs.length .non)) := by unfold Zsd; rw [if_neg h']
   fail "g"
   refine w_ixT (Zcc (Zjv c.hk (by omega))) ?_
   fail "g"
   refine Zea (fun d => match d with | .bl t => W ks rss (ks.length - (bs ++ [t]).length) (bs ++ [t]) == kS (ks.getD bs.length .non) | _ => false) (fun H' => H' = H ++ [.lst []] ++ [.lst [D.bl false, .bl true]]) (fun _ e => Zxb (by rw [e]; exact last)) _ (fun x hx H1 j => ?_) _ rfl fun H1 j => ?_
   ·have : ∃ t, x = .bl t := by simp at hx; rcases hx with rfl | rfl <;> exact ⟨_, rfl⟩
    obtain ⟨t, rfl⟩ := this
    subst j
    fail "g"
    refine Zuo (appL (appL gw)) (by simp; omega) ?_
    fail "g"
    refine Yac ?_
    fail "g"
    exact ⟨rfl, rfl⟩
   ·subst j
    refine ⟨Nat.le_trans (List.length_filter_le _ _) (by simp), ?_⟩
    fail "g"
    refine ⟨rfl, ((Fm.app _).trans (Fm.app _)).trans (Fm.app _), _, ?_, last.trans ?_, by rw [et]; rfl⟩
    ·simp
    ·rw [gp, if_neg h']
     rw [show [D.bl false, D.bl true] = [false, true].map D.bl from rfl, List.filter_map]
     rfl
  ·have h' : bs.length = ks.length := by simp at h; omega
   have et : Zsd ks bs = .non := by unfold Zsd; rw [if_pos h']
   fail "g"
   exact ⟨rfl, .app _, _, Nat.le_refl _, by rw [gp, if_pos h']; exact last, by rw [et]; rfl⟩
 ·rintro _ H1 ⟨x1, pg, l1, g1, rfl⟩
  obtain ⟨fz', gw1⟩ := x1.dic (by simp) gw
  fail "g"
  refine Zuo gw1 hb ?_
  fail "g"
  refine Zwd c (fun H2 x2 => ?_) (by omega)
  fail "g"
  exact q _ pg _ last (appL (x2.lst (by simp) g1)) (by have := (x1.trans x2).len; omega) l1 ((x1.trans x2).trans (.app _))
theorem Zal.ne {n m : Nat} {H : HD} {cn : Str} {fs : List (Str × D)} (f : Zal n H) (g : H[m]? = some (.obj cn fs)) : m ≠ n := by
 rintro rfl
 obtain ⟨a, b, e⟩ := f
 rw [g] at e
 cases e
theorem Zal.keep {n : Nat} {H H' : HD} (f : Zal n H) (x : Fm [] H H') : Zal n H' := by
 obtain ⟨a, b, e⟩ := f
 exact ⟨a, b, x.lst (by simp) e⟩
theorem Zal.nb {n m : Nat} {H : HD} {bs : List Bool} (f : Zal n H) (g : H[m]? = some (.lst (bs.map .bl))) : m ≠ n := by
 rintro rfl
 obtain ⟨a, b, e⟩ := f
 rw [g] at e
 cases bs with
 | nil => cases e
 | cons _ _ => cases e
theorem Cl.show {ks : List D} {rss : List (List Int)} (c : Cl ks rss) (hl : rss.length ≤ 100) : ∃ t : Str, ∀ H, Zd4 [Zay ks rss] H = some (.str t, H) := by
 have h8 := c.h8
 have a2 : Za3 (.tup ks) 40100 2 := (Za3.tup (w := 40) (dp := 0) fun d hd => Za3.kind (c.hk d hd)).le (by omega) (by omega)
 have b : Za3 (.tup (rss.map Za1)) 40100 2 := by
  refine (Za3.tup (w := 400) (dp := 1) ?_).le (by simp; omega) (by omega)
  intro d hd
  obtain ⟨ls, h0, rfl⟩ := List.mem_map.mp hd
  have l9 := c.len9 h0
  refine (Za3.tup (xs := ls.map .int) (w := 40) (dp := 0) ?_).le (by simp; omega) (by omega)
  intro d hd
  obtain ⟨i, hi, rfl⟩ := List.mem_map.mp hd
  obtain ⟨a0, a1⟩ := Zno ls 0 (Int.le_refl _) (c.hu ls h0) i hi
  have : -30 ≤ i ∧ i ≤ 30 := by unfold Zbo at a1; split at a1 <;> omega
  exact Za3.int this.1 this.2
 refine (Za3.tup (xs := [.tup ks, .tup (rss.map Za1)]) (w := 40100) (dp := 2) ?_).rep (by simp) (by omega)
 intro d hd
 simp only [List.mem_cons, List.not_mem_nil, or_false] at hd
 rcases hd with rfl | rfl
 ·exact a2
 ·exact b
theorem Zlg (b : Bool) : ∃ t : Str, ∀ H, Zd4 [Za6 b] H = some (.str t, H) := (Za3.kind (by cases b; exact .inl rfl; exact .inr rfl)).rep (by omega) (by omega)
theorem Zr8 (bs : List Bool) (hl : bs.length ≤ 1000) : ∃ t : Str, ∀ H, Zd4 [Zau bs] H = some (.str t, H) := by
 refine (Za3.tup (w := 40) (dp := 0) fun d hd => ?_).rep (by simp; omega) (by omega)
 obtain ⟨b, _, rfl⟩ := List.mem_map.mp hd
 exact Za3.bl
theorem Zwi {pg : Nat} {w : Int} (c : Cl ks rss) (hr : rss.length ≤ 100) (hb : bs.length ≤ ks.length) (g : H[n]? = some (Zbe ks rss bs)) (gg : H[pg]? = some (.lst ((gp ks rss bs).map .bl))) (h0 : 0 ≤ w) (h1 : w < 5)
  (q : ∀ d H' e t, Fm [] H H' -> atI (Zzo ks rss bs pg) w = some e -> Zd4 [d] H' = some (.str t, H') -> Zd4 [e] H' = some (.str t, H') -> (w = 3 -> ∃ p, d = .ref p ∧ H.length ≤ p ∧ H'[p]? = some (.lst ((gp ks rss bs).map .bl))) -> Q d H') : wE (Ze7 [.ref n, .int w] H) Q := by
 have h8 := c.h8
 have cL := c.left bs hb
 have lL : (Zdb bs rss).length ≤ 100 := by unfold Zdb; rw [List.length_map]; exact Nat.le_trans (List.length_filter_le _ _) hr
 refine Zbu rfl ?_
 show wS (Zc8 [some (.ref n), some (.int w)] H) _
 unfold Zc8
 rcases (show w = 0 ∨ w = 1 ∨ w = 2 ∨ w = 3 ∨ w = 4 by omega) with rfl | rfl | rfl | rfl | rfl
 ·obtain ⟨t, ht⟩ := Zr8 bs (by omega)
  fail "i"
  fail "g"
  refine Zhk (w_var rfl ⟨n, _, rfl, g, rfl, w_anil ⟨rfl, Zv9 g ?_⟩⟩)
  fail "g"
  exact q _ _ _ t .refl rfl (ht _) (ht _) (fun z => by cases z)
 ·fail "i"
  fail "i"
  fail "g"
  refine Zhk (w_var rfl ⟨n, _, rfl, g, rfl, w_anil ⟨rfl, Zvp c hb g ?_⟩⟩)
  fail "g"
  obtain ⟨t, ht⟩ : ∃ t : Str, ∀ H, Zd4 [Zsd ks bs] H = some (.str t, H) := by
   unfold Zsd
   split
   ·exact Za3.non.rep (by omega) (by omega)
   ·exact Zlg _
  exact q _ _ _ t .refl rfl (ht _) (ht _) (fun z => by cases z)
 ·fail "i"
  fail "i"
  fail "i"
  fail "g"
  refine Zhk (w_var rfl ⟨n, _, rfl, g, rfl, w_anil ⟨rfl, Yaq c hb g fun H1 x1 => ?_⟩⟩)
  fail "g"
  obtain ⟨t, ht⟩ := Zlg (W ks rss (ks.length - bs.length) bs)
  exact q _ _ _ t x1 rfl (ht _) (ht _) (fun z => by cases z)
 ·fail "i"
  fail "i"
  fail "i"
  fail "i"
  fail "g"
  refine Zhk (w_var rfl ⟨n, _, rfl, g, rfl, w_anil ⟨rfl, Zxw c hb g fun p H1 g1 l1 x1 => ?_⟩⟩)
  fail "g"
  obtain ⟨t, ht⟩ := Zni (gp ks rss bs) (Nat.le_trans (Zum ks rss bs) (by decide))
  exact q _ _ _ t x1 rfl (ht _ _ g1) (ht _ _ (x1.lst (by simp) gg)) fun _ => ⟨p, rfl, l1, g1⟩
 ·fail "i"
  fail "i"
  fail "i"
  fail "i"
  fail "g"
  refine Zhk (w_var rfl ⟨n, _, rfl, g, rfl, w_anil ⟨rfl, Zvq c g fun H1 x1 => ?_⟩⟩)
  fail "g"
  obtain ⟨t, ht⟩ := cL.show lL
  exact q _ _ _ t x1 rfl (ht _) (ht _) (fun z => by cases z)
noncomputable def Zo6 (ph : Nat) (ps : List D) (H : HD) : Prop := H[ph]? = some (.lst ps) ∧ ∀ d ∈ ps, ∃ (a b : Nat) (bs : List Bool), d = .tup [.ref a, .ref b] ∧ ph < a ∧ ph < b ∧ H[a]? = some (.lst (bs.map .bl)) ∧ H[b]? = some (.lst (bs.map .bl))
theorem Zo6.keep {ph : Nat} {ps : List D} {S : List Nat} {H' : HD} (h : Zo6 ph ps H) (x : Fm S H H') (hp : ph ∉ S) (hS : ∀ m ∈ S, ∀ bs : List Bool, H[m]? ≠ some (.lst (bs.map .bl))) : Zo6 ph ps H' := by
 refine ⟨x.lst hp h.1, fun d hd => ?_⟩
 obtain ⟨a, b, bs, e, la, lb, ga, gb⟩ := h.2 d hd
 exact ⟨a, b, bs, e, la, lb, x.lst (fun z => hS a z bs ga) ga, x.lst (fun z => hS b z bs gb) gb⟩
theorem Zo6.add {ph a b : Nat} {ps : List D} {bs : List Bool} (h : Zo6 ph ps H) (la : ph < a) (lb : ph < b) (ga : H[a]? = some (.lst (bs.map .bl))) (gb : H[b]? = some (.lst (bs.map .bl))) : Zo6 ph (ps ++ [.tup [.ref a, .ref b]]) (H.set ph (.lst (ps ++ [.tup [.ref a, .ref b]]))) := by
 have lp : ph < H.length := (List.getElem?_eq_some_iff.mp h.1).1
 refine ⟨List.getElem?_set_self lp, fun d hd => ?_⟩
 rcases List.mem_append.mp hd with hd | hd
 ·obtain ⟨a, b, bs, e, la, lb, ga, gb⟩ := h.2 d hd
  exact ⟨a, b, bs, e, la, lb, by rw [List.getElem?_set_ne (by omega)]; exact ga, by rw [List.getElem?_set_ne (by omega)]; exact gb⟩
 ·simp only [List.mem_cons, List.not_mem_nil, or_false] at hd
  exact ⟨a, b, bs, hd, la, lb, by rw [List.getElem?_set_ne (by omega)]; exact ga, by rw [List.getElem?_set_ne (by omega)]; exact gb⟩
theorem Zs2 {p : Nat} {xs : List D} (g : H[p]? = some (.lst xs)) (q : Q (.ref H.length) (H ++ [.lst xs])) : wE (Zr5 [.ref p] H) Q := ⟨_, _, by simp [Zr5, Zf7, g], q⟩
theorem Zxu {nf pd pg ph : Nat} {many : Int} {ps : List D} (c : Cl ks rss) (hr : rss.length ≤ 100) (hb : bs.length ≤ ks.length) (f : Zal nf H) (g : H[n]? = some (Zbe ks rss bs)) (gd : H[pd]? = some (.lst (Zzo ks rss bs pg))) (gg : H[pg]? = some (.lst ((gp ks rss bs).map .bl)))
  (hd : Zo6 ph ps H) (hm : 0 ≤ many ∧ many ≤ 10) (hp : ps.length ≤ 100000) (nfh : nf ≠ ph) (ldh : ph < pd) (lgh : ph < pg)
  (q : ∀ ps' H', Zal nf H' -> H'[n]? = some (Zbe ks rss bs) -> Zo6 ph ps' H' -> ps'.length ≤ ps.length + 10 -> Fm [nf, ph] H H' -> Q (.bl true) H') : wE (Zbq [.ref nf, .ref n, .ref pd, .int many, .ref ph] H) Q := by
 have h8 := c.h8
 refine Zbu rfl ?_
 show wS (Zc1 [some (.ref nf), some (.ref n), some (.ref pd), some (.int many), some (.ref ph), none, none, none, none, none] H) _
 unfold Zc1
 have nS : ∀ {H : HD}, Zal nf H -> ∀ m ∈ [nf], ∀ bs : List Bool, H[m]? ≠ some (.lst (bs.map .bl)) := fun f m hm bs e => by
  simp only [List.mem_cons, List.not_mem_nil, or_false] at hm
  subst hm
  exact f.nb e rfl
 have hnf : ph ∉ [nf] := by simpa using Ne.symm nfh
 fail "g"
 refine Zbz f (by omega) (by omega) fun fi H1 fi0 fi1 f1 x1 => ?_
 fail "g"
 refine Zbz f1 (by omega) (by omega) fun st H2 st0 st1 f2 x2 => ?_
 fail "g"
 have X2 : Fm [nf] H H2 := x1.trans x2
 have hd2 := hd.keep X2 hnf (nS f)
 refine ⟨_, rfl, by unfold Zb3; omega, ?_⟩
 have rl : (Za2 0 many.toNat).length = many.toNat := by simp [Za2]
 have ri : ∀ x ∈ Za2 0 many.toNat, ∃ i : Int, x = .int i ∧ 0 ≤ i ∧ i < 10 := fun x hx => by
  simp only [Za2, List.mem_map, List.mem_range] at hx
  obtain ⟨i, hi, rfl⟩ := hx
  exact ⟨_, rfl, by omega, by omega⟩
 refine Zd1 (fun d t σ H' => ∃ ps', Zal nf H' ∧ Fm [nf, ph] H H' ∧ Zo6 ph ps' H' ∧ ps'.length ≤ ps.length + d.length ∧ d.length + t.length = many.toNat ∧ (∀ x ∈ t, ∃ i : Int, x = .int i ∧ 0 ≤ i ∧ i < 10) ∧ ∃ z7 z8 z9, σ = [some (.ref nf), some (.ref n), some (.ref pd), some (.int many), some (.ref ph), some (.int fi), some (.int (1 + st)), z7, z8, z9])
  (fun _ _ _ _ _ => Zko) (fun d x t σ H3 ⟨ps', f3, x3, hd3, lp3, lt3, ri3, z7, z8, z9, e⟩ => ?_) (fun d σ H3 ⟨ps', f3, x3, hd3, lp3, lt3, ri3, z7, z8, z9, e⟩ => ?_) _ [] _ _ ⟨ps, f2, X2.sub (by simp), hd2, by simp, by rw [rl]; simp, ri, _, _, _, rfl⟩
 ·obtain ⟨i, rfl, i0, i1⟩ := ri3 x (by simp)
  subst e
  have nn : n ∉ [nf, ph] := by
   have a := f.ne g
   have b : n ≠ ph := fun z => by have e := hd.1; rw [← z, g] at e; cases e
   simp [a, b]
  have npd : pd ∉ [nf, ph] := by
   have a : pd ≠ nf := fun z => by obtain ⟨a, b, e⟩ := f; rw [← z, gd] at e; cases e
   have b : pd ≠ ph := by omega
   simp [a, b]
  have npg : pg ∉ [nf, ph] := by
   have a : pg ≠ nf := f.nb gg
   have b : pg ≠ ph := by omega
   simp [a, b]
  have g3 := x3.obj nn g
  have gd3 := x3.lst npd gd
  have gg3 := x3.lst npg gg
  have lH := x3.len
  have lpH : ph < H3.length := (List.getElem?_eq_some_iff.mp hd3.1).1
  have sm : 0 ≤ (1 + st) * i ∧ (1 + st) * i ≤ 100 := by
   have a := Int.mul_nonneg (show 0 ≤ 1 + st by omega) i0
   have b : (1 + st) * i ≤ 10 * 10 := Int.mul_le_mul (by omega) (by omega) i0 (by omega)
   omega
  have w0 := Int.emod_nonneg (fi + (1 + st) * i) (show (5 : Int) ≠ 0 by omega)
  have w1 := Int.emod_lt_of_pos (fi + (1 + st) * i) (show (0 : Int) < 5 by omega)
  have rt3 : ∀ x ∈ t, ∃ i : Int, x = .int i ∧ 0 ≤ i ∧ i < 10 := fun y hy => ri3 y (by simp [hy])
  have ltt : (d ++ [D.int i]).length + t.length = many.toNat := by simp at lt3 ⊢; omega
  fail "g"
  refine w_mulR (by omega) (by omega) ?_
  fail "g"
  generalize (fi + (1 + st) * i) % 5 = w at w0 w1 ⊢
  refine Zwi c hr hb g3 gg3 w0 w1 fun dd H4 e4 tt x4 ea ra rb hw => ?_
  have f4 := f3.keep x4
  have hd4 := hd3.keep x4 (by simp) (by simp)
  have X4 := x3.trans (x4.sub (by simp))
  fail "i"
  refine Zl2 ra ?_
  fail "g"
  refine w_ixR (x4.lst (by simp) gd3) ea ?_
  fail "g"
  refine Zl2 rb ?_
  fail "g"
  rw [show (tt != tt) = false from by simp]
  fail "i"
  rcases (show w = 3 ∨ (w = 0 ∨ w = 1 ∨ w = 2 ∨ w = 4) by omega) with rfl | hw'
  ·obtain ⟨p, rfl, lp, gp4⟩ := hw rfl
   fail "g"
   refine Zbz f4 (by omega) (by omega) fun r H5 r0 r1 f5 x5 => ?_
   have hd5 := hd4.keep x5 hnf (nS f4)
   have gp5 := x5.lst (by simpa using f4.nb gp4) gp4
   have X5 := X4.trans (x5.sub (by simp))
   fail "g"
   refine ⟨fun h => ?_, fun h => ?_⟩
   ·fail "g"
    refine ⟨isl hd5.1, ?_⟩
    fail "g"
    refine Zs2 gp5 ?_
    fail "g"
    have hd6 : Zo6 ph ps' (H5 ++ [.lst ((gp ks rss bs).map .bl)]) := hd5.keep (.app (S := []) _) (by simp) (by simp)
    refine Zn2 hd6.1 (by omega) ?_
    fail "g"
    have lx := x5.len
    refine ⟨_, f5.fm (S := [ph]) ((Fm.app _).trans (.set (by simp))) (by simpa using nfh), X5.trans ((Fm.app _).trans (.set (by simp))), hd6.add (bs := gp ks rss bs) (by omega) (by have := x4.len; omega) (appL gp5) last, by simp; omega, ltt, rt3, _, _, _, rfl⟩
   ·fail "i"
    fail "g"
    refine ⟨isl gp5, ?_⟩
    fail "g"
    refine Zn2 gp5 (by have := Zum ks rss bs; simp; omega) ?_
    fail "g"
    have npf : nf ≠ p := Ne.symm (f4.nb gp4)
    have Y : Fm [nf] H3 (H5.set p (.lst ((gp ks rss bs).map .bl ++ [.non]))) := ((x4.sub (by simp)).trans x5).new (Fm.set (S := [p]) (by simp)) (by simp; omega)
    exact ⟨ps', f5.fm (S := [p]) (.set (by simp)) (by simpa using npf), x3.trans (Y.sub (by simp)), hd3.keep Y hnf (nS f3), by simp; omega, ltt, rt3, _, _, _, rfl⟩
  ·rcases hw' with rfl | rfl | rfl | rfl <;> (fail "i"; fail "g"; exact ⟨ps', f4, X4, hd4, by simp; omega, ltt, rt3, _, _, _, rfl⟩)
 ·subst e
  fail "g"
  have X3 := x3
  refine q ps' H3 f3 (X3.obj ?_ g) hd3 (by simp at lt3; omega) X3
  have a := f.ne g
  have b : n ≠ ph := fun z => by have e := hd.1; rw [← z, g] at e; cases e
  simp [a, b]
theorem shBig : (PyData.shown (.int (10 ^ 20))).length ≤ 40 ∧ (PyData.int (10 ^ 20)).showable = true ∧ (PyData.int (10 ^ 20)).weight ≤ 70 := by decide +kernel
theorem Za3.big : Za3 (.int (10 ^ 20)) 70 0 := by
 have h := shBig
 exact ⟨.int (10 ^ 20), fun H n => Zji H n _, rfl, h.2.1, Nat.le_refl _, by simp only [PyData.leavesShort]; exact decide_eq_true h.1, h.2.2⟩
noncomputable def Zlb (n : Nat) (H : HD) (d : D) : Prop := ∃ t : Str, ∀ H', Fm [n] H H' -> Zd4 [d] H' = some (.str t, H')
theorem Zlb.of {w dp : Nat} {d : D} (h : Za3 d w dp) (hw : w ≤ 100000) (hd : dp ≤ 30) : Zlb n H d := by
 obtain ⟨t, e⟩ := h.rep hw hd
 exact ⟨t, fun H' _ => e H'⟩
theorem Zlb.bools {p : Nat} {bs : List Bool} (g : H[p]? = some (.lst (bs.map .bl))) (hl : bs.length ≤ 100) (hn : p ≠ n) : Zlb n H (.ref p) := by
 obtain ⟨t, e⟩ := Zni bs hl
 exact ⟨t, fun H' x => e H' p (x.lst (by simpa using hn) g)⟩
theorem w_slE (q : Q (Zau []) H) : wE (slD (Zau []) none (some (-1)) H) Q := ⟨_, _, rfl, q⟩
theorem Zw1 (q : Q (.int (10 ^ 20)) H) : wE (Zk5 (.int 10) (.int 20) H) Q := ⟨_, _, rfl, q⟩
theorem Zzi {nf : Nat} (c : Cl ks rss) (hb : bs.length ≤ ks.length) (f : Zal nf H) (ln : n < H.length)
  (q : ∀ wd d due bs' H', Deed ks bs wd d due bs' -> Zlb n H' d -> bs'.length ≤ ks.length -> Zal nf H' -> Fm [nf] H H' -> Q (.tup [.str wd, d, .str due, Zau bs']) H') : wE (Zet [.ref nf, .int ks.length, Zau bs] H) Q := by
 have h8 := c.h8
 refine Zbu rfl ?_
 show wS (Zdl [some (.ref nf), some (.int ks.length), some (Zau bs), none, none, none] H) _
 unfold Zdl
 have lf := f.lt
 fail "g"
 refine Ze5 (f.keep (.app _)) last (by omega) (by simp) (by simp) fun wv H1 hw f1 x1 => ?_
 obtain ⟨wd, rfl, hwd⟩ : ∃ wd : Str, wv = .str wd ∧ (wd = "pick" ∨ wd = "back" ∨ wd = "odd") := by
  simp only [List.mem_cons, List.not_mem_nil, or_false] at hw
  rcases hw with rfl | rfl | rfl | rfl | rfl | rfl | rfl <;> exact ⟨_, rfl, by simp⟩
 have X1 : Fm [nf] H H1 := (Fm.app _).trans x1
 fail "g"
 refine Zbz f1 (by omega) (by omega) fun r H2 r0 r1 f2 x2 => ?_
 have X2 := X1.trans x2
 have lH := X2.len
 fail "g"
 generalize (r == 1) = th
 rcases hwd with rfl | rfl | rfl
 ·fail "i"
  fail "i"
  fail "i"
  refine ⟨fun h => ?_, fun h => ?_⟩
  ·have h' : bs.length = ks.length := by simp at h; omega
   fail "g"
   exact q "pick" _ "pick" bs H2 (.inr ⟨by decide, .inr ⟨th, rfl, .inl ⟨h', rfl, rfl⟩⟩⟩) (.of Za3.bl (by omega) (by omega)) hb f2 X2
  ·have h' : bs.length ≠ ks.length := by simp at h; omega
   fail "g"
   exact q "pick" _ "" (bs ++ [th]) H2 (.inr ⟨by decide, .inr ⟨th, rfl, .inr ⟨by omega, rfl, rfl⟩⟩⟩) (.of Za3.bl (by omega) (by omega)) (by simp; omega) f2 X2
 ·fail "i"
  fail "i"
  fail "g"
  refine Zwf (Zf6 bs) (by omega) ?_
  fail "g"
  rcases List.eq_nil_or_concat bs with rfl | ⟨b, t, eb⟩
  ·fail "g"
   refine w_slE ?_
   fail "g"
   exact q "back" _ "back" [] _ (.inl ⟨rfl, .inl ⟨rfl, rfl, rfl⟩⟩) (.of Za3.bl (by omega) (by omega)) (by simp) (f2.keep (.app _)) (X2.trans (.app _))
  ·rw [List.concat_eq_append] at eb
   subst eb
   rw [show (List.map D.bl (b ++ [t])).isEmpty = false by simp]
   fail "g"
   refine Zpg ?_
   fail "g"
   exact q "back" _ "" b _ (.inl ⟨rfl, .inr ⟨t, rfl, rfl⟩⟩) (.of Za3.bl (by omega) (by omega)) (by simp at hb; omega) (f2.keep (.app _)) (X2.trans (.app _))
 ·fail "i"
  fail "g"
  refine Zw1 ?_
  fail "g"
  have X3 : Fm [nf] H (H2 ++ [.lst [D.bl true]] ++ [.lst [D.bl false, .bl true]]) := (X2.trans (.app _)).trans (.app _)
  refine Ze5 ((f2.keep (.app _)).keep (.app _) |>.keep (.app _)) last (by have := f2.lt; simp; omega) (by simp) (by simp) fun d H3 hd f3 x3 => ?_
  have l2 := f2.lt
  have X4 := (X3.trans (.app _)).trans x3
  have ga := x3.lst (m := H2.length) (by simp; omega) (appL (appL (last (H := H2) (o := .lst [D.bl true]))))
  have gb := x3.lst (m := (H2 ++ [DO.lst [D.bl true]]).length) (by simp; omega) (appL (last (H := H2 ++ [DO.lst [D.bl true]]) (o := .lst [D.bl false, .bl true])))
  fail "g"
  have fin : Yad d → Zlb n H3 d → Q (.tup [.str "odd", d, .str "pick", Zau bs]) H3 := fun h1 h2 => q "odd" _ "pick" bs H3 (.inr ⟨by decide, .inl ⟨h1, rfl, rfl⟩⟩) h2 hb f3 X4
  simp only [List.mem_cons, List.not_mem_nil, or_false] at hd
  have s0 : ∀ i : Int, -30 ≤ i -> i ≤ 30 -> Zlb n H3 (.int i) := fun i h1 h2 => .of (Za3.int h1 h2) (by omega) (by omega)
  have sT : ∀ x : Str, PyData.strOk x = true -> (x.cps.toList.all fun c => decide (c < 16 ^ 8)) = true -> x.cps.size ≤ 40 -> Zlb n H3 (.str x) := fun x h1 h2 h3 => .of (Za3.str h1 h2 h3) (by omega) (by omega)
  rcases hd with rfl | rfl | rfl | rfl | rfl | rfl | rfl | rfl | rfl | rfl | rfl | rfl | rfl | rfl
  ·exact fin (by rintro b ⟨⟩) (s0 _ (by omega) (by omega))
  ·exact fin (by rintro b ⟨⟩) (s0 _ (by omega) (by omega))
  ·exact fin (by rintro b ⟨⟩) (.of Za3.non (by omega) (by omega))
  ·exact fin (by rintro b ⟨⟩) (sT _ (Zca (by decide)) (by decide) (by decide))
  ·exact fin (by rintro b ⟨⟩) (sT _ (Zca (by decide)) (by decide) (by decide))
  ·exact fin (by rintro b ⟨⟩) (.of (Za3.tup (w := 40) (dp := 0) fun d hd => by simp at hd; subst hd; exact Za3.bl) (by simp) (by omega))
  ·exact fin (by rintro b ⟨⟩) (.bools (bs := [true]) ga (by simp) (by omega))
  ·exact fin (by rintro b ⟨⟩) (s0 _ (by omega) (by omega))
  ·exact fin (by rintro b ⟨⟩) (s0 _ (by omega) (by omega))
  ·exact fin (by rintro b ⟨⟩) (sT _ (Zca (by decide)) (by decide) (by decide))
  ·exact fin (by rintro b ⟨⟩) (.of (Za3.tup (w := 40) (dp := 0) (xs := []) fun d hd => by cases hd) (by simp) (by omega))
  ·exact fin (by rintro b ⟨⟩) (sT _ (Zca (by decide)) (by decide) (by decide))
  ·exact fin (by rintro b ⟨⟩) (.bools (bs := [false, true]) gb (by simp) (by simp; omega))
  ·exact fin (by rintro b ⟨⟩) (.of Za3.big (by omega) (by omega))
theorem w_lc2 {it : ItF} {ci : List Nat} {tt : TF} {te : EF} {σ : SD} (h : wI (it σ H) fun xs own H1 => wA (Zdi own (Zsb ci σ) tt te xs H1) fun ds H2 => ds.length ≤ 1000000 ∧ Q (.ref H2.length) (H2 ++ [.lst ds])) : wE (Zyl it ci tt te σ H) Q := by
 obtain ⟨xs, own, H1, e1, ds, H2, e2, hl, q⟩ := h
 refine ⟨_, _, ?_, q⟩
 unfold Zyl
 rw [e1]
 simp only [Zb]
 rw [e2]
 simp only [Zb, mkL]
 rw [if_pos (Zeh hl)]
theorem Znt {own : Zgy} (ho : Zcj own H) : ∀ (ps : List D) {R : List D -> HD -> Prop}, (∀ d ∈ ps, ∃ (a b : Nat) (bs : List Bool), d = .tup [.ref a, .ref b] ∧ H[a]? = some (.lst (bs.map .bl)) ∧ H[b]? = some (.lst (bs.map .bl))) -> R [] H -> wA (Zdi own [] (tOf (eOp neD (Zac 0) (Zac 1))) (eC (.int 1)) ps H) R
 | [], R, _, q => ⟨_, _, by rw [Zdi, if_pos ho], q⟩
 | d :: ps, R, h, q => by
  obtain ⟨a, b, bs, rfl, ga, gb⟩ := h d (by simp)
  obtain ⟨ds, H1, e, q⟩ := Znt ho ps (R := R) (fun d hd => h d (by simp [hd])) q
  refine ⟨ds, H1, ?_, q⟩
  rw [Zdi]
  have et : tOf (eOp neD (Zac 0) (Zac 1)) (some (.ref a) :: some (.ref b) :: []) H = some (false, H) := by
   unfold tOf eOp
   have e2 := Zmu (Zj2 ga) (Zj2 gb)
   rw [Zm6 (.list (bs.map .bool)) (Zf6 bs).lay] at e2
   simp [Zac, e2]
   rfl
  simp only [two2, Zb]
  rw [if_pos ho, et]
  simp only [Zb]
  exact e
theorem Zal.npd {nf pd pg : Nat} (f : Zal nf H) (gd : H[pd]? = some (.lst (Zzo ks rss bs pg))) : pd ∉ [nf] := fun z => by
 have e : pd = nf := by simpa using z
 obtain ⟨a, b, h⟩ := f
 rw [← e, gd] at h
 cases h
structure LM (nf n pw ph : Nat) (ks : List D) (rss : List (List Int)) (bs : List Bool) (ps : List D) (H : HD) : Prop where
 f : Zal nf H
 g : H[n]? = some (Zbe ks rss bs)
 w : ∃ fz, H[pw]? = some (.dic ((Zg1 ks.length).map (kv ks rss)) fz)
 h : Zo6 ph ps H
 hb : bs.length ≤ ks.length
 nfh : nf ≠ ph
section
variable {nf pw ph : Nat} {ps : List D} {H' : HD}
theorem LM.feedS (f : Zal nf H) : ∀ m ∈ [nf], ∀ bs : List Bool, H[m]? ≠ some (.lst (bs.map .bl)) := fun m hm bs e => by
 simp only [List.mem_cons, List.not_mem_nil, or_false] at hm
 subst hm
 exact f.nb e rfl
theorem LM.keep (m : LM nf n pw ph ks rss bs ps H) (x : Fm [] H H') : LM nf n pw ph ks rss bs ps H' :=
 ⟨m.f.keep x, x.obj (by simp) m.g, let ⟨_, w⟩ := m.w; x.dic (by simp) w, m.h.keep x (by simp) (by simp), m.hb, m.nfh⟩
theorem LM.npw (m : LM nf n pw ph ks rss bs ps H) : pw ≠ nf ∧ pw ≠ ph ∧ pw ≠ n ∧ n ≠ nf ∧ n ≠ ph := by
 obtain ⟨fz, w⟩ := m.w
 refine ⟨fun z => ?_, fun z => ?_, fun z => ?_, m.f.ne m.g, fun z => ?_⟩
 ·obtain ⟨a, b, e⟩ := m.f; rw [← z, w] at e; cases e
 ·have e := m.h.1; rw [← z, w] at e; cases e
 ·have e := m.g; rw [← z, w] at e; cases e
 ·have e := m.h.1; rw [← z, m.g] at e; cases e
theorem LM.take (m : LM nf n pw ph ks rss bs ps H) (x : Fm [nf] H H') (f : Zal nf H') : LM nf n pw ph ks rss bs ps H' := by
 obtain ⟨h1, h2, h3, h4, h5⟩ := m.npw
 exact ⟨f, x.obj (by simpa using h4) m.g, let ⟨_, w⟩ := m.w; x.dic (by simpa using h1) w, m.h.keep x (by simpa using Ne.symm m.nfh) (LM.feedS m.f), m.hb, m.nfh⟩
theorem LM.feed {nf' : Nat} (m : LM nf n pw ph ks rss bs ps H) (x : Fm [] H H') (f : Zal nf' H') (l : H.length ≤ nf') : LM nf' n pw ph ks rss bs ps H' := by
 have lp : ph < H.length := (List.getElem?_eq_some_iff.mp m.h.1).1
 exact ⟨f, x.obj (by simp) m.g, let ⟨_, w⟩ := m.w; x.dic (by simp) w, m.h.keep x (by simp) (by simp), m.hb, by omega⟩
theorem LM.done {bs' : List Bool} (m : LM nf n pw ph ks rss bs ps H) (x : Fm [n] H H') (g : H'[n]? = some (Zbe ks rss bs')) (hb : bs'.length ≤ ks.length) : LM nf n pw ph ks rss bs' ps H' := by
 obtain ⟨h1, h2, h3, h4, h5⟩ := m.npw
 refine ⟨m.f.fm x (by simpa using Ne.symm h4), g, let ⟨_, w⟩ := m.w; x.dic (by simpa using h3) w, m.h.keep x (by simpa using Ne.symm h5) (fun k hk bs e => ?_), hb, m.nfh⟩
 simp only [List.mem_cons, List.not_mem_nil, or_false] at hk
 subst hk
 rw [m.g] at e; cases e
theorem LM.right {many : Int} {pd pg : Nat} (m : LM nf n pw ph ks rss bs ps H) (c : Cl ks rss) (hr : rss.length ≤ 100) (gd : H[pd]? = some (.lst (Zzo ks rss bs pg))) (gg : H[pg]? = some (.lst ((gp ks rss bs).map .bl))) (hm : 0 ≤ many ∧ many ≤ 10) (hp : ps.length ≤ 100000) (ldh : ph < pd) (lgh : ph < pg)
  (q : ∀ ps' H', LM nf n pw ph ks rss bs ps' H' -> ps'.length ≤ ps.length + 10 -> Q (.bl true) H') : wE (Zbq [.ref nf, .ref n, .ref pd, .int many, .ref ph] H) Q := by
 obtain ⟨h1, h2, h3, h4, h5⟩ := m.npw
 refine Zxu c hr m.hb m.f m.g gd gg m.h hm hp m.nfh ldh lgh fun ps' H' f' g' hd' lp x => q ps' H' ⟨f', g', let ⟨_, w⟩ := m.w; x.dic (by simp [h1, h2]) w, hd', m.hb, m.nfh⟩ lp
end
noncomputable def sg (ns : List Int) (nf : Nat) (ks : List D) (rss : List (List Int)) (pw n : Nat) (bs : List Bool) (ph : Nat) (z7 z8 z9 z10 z11 : Option D) : SD := [some (.fl (ns.map .int)), some (.ref nf), some (Zay ks rss), some (.ref pw), some (.ref n), some (Zau bs), some (.ref ph), z7, z8, z9, z10, z11]
noncomputable def Zxv : SF := (Zaf (Zod (Zai 3 Zet (Zaa (Zac 1) (Zaa (eCB Zb5 (Zaa (eOp ixD (Zac 2) (eC (.int 0))) Zae)) (Zaa (Zac 5) Zae)))) (gTp 4 (gCn (gNm 9) (gCn (gNm 10) (gCn (gNm 11) (gCn (gNm 5) gNl))))))
 (Zaf (sIf (tOf (eOp neD (Zai 3 Zes (Zaa (Zac 4) (Zaa (Zac 9) (Zaa (Zac 10) Zae)))) (Zac 11))) (Zaf (Zbi (eC (.bl false)))
 Zaj) Zaj)
 Zaj))
theorem Zzk {ns : List Int} {nf pw ph : Nat} {ps : List D} {z7 z8 z9 z10 z11 : Option D} {R : FD -> SD -> HD -> Prop} (c : Cl ks rss) (m : LM nf n pw ph ks rss bs ps H)
  (q : ∀ bs' H' y9 y10 y11, LM nf n pw ph ks rss bs' ps H' -> R .nx (sg ns nf ks rss pw n bs' ph z7 z8 y9 y10 y11) H') : wS (Zxv (sg ns nf ks rss pw n bs ph z7 z8 z9 z10 z11) H) R := by
 have ln : n < H.length := (List.getElem?_eq_some_iff.mp m.g).1
 unfold Zxv sg
 fail "g"
 refine Zzi c m.hb m.f ln fun wd d due bs' H1 D sh hb' f1 x1 => ?_
 have m1 := m.take x1 f1
 obtain ⟨t, ht⟩ := sh
 fail "i"
 refine Zyc c m1.g ht D fun H2 g2 x2 => ?_
 fail "g"
 rw [show (due != due) = false from by simp]
 fail "g"
 exact q bs' H2 _ _ _ (m1.done x2 g2 hb')
theorem Zyg {ns : List Int} {nf pw ph : Nat} {k : Int} {ps : List D} {z8 z9 z10 z11 : Option D} {R : FD -> SD -> HD -> Prop} (c : Cl ks rss) (hr : rss.length ≤ 100) (m : LM nf n pw ph ks rss bs ps H) (hp : ps.length ≤ 90000) (k0 : 0 ≤ k) (k1 : k < 1000)
  (q : ∀ nf' bs' ps' H' y8 y9 y10 y11, LM nf' n pw ph ks rss bs' ps' H' -> ps'.length ≤ ps.length + 10 -> R .nx (sg ns nf' ks rss pw n bs' ph (some (.int k)) y8 y9 y10 y11) H') :
  wS ((Zaf (Za0 1 (Zai 2 Zcb (Zaa (Zac 0) (Zaa (Zac 7) Zae))))
 (Zaf (Zft (iR1 (Zaa (Zai 2 Zah (Zaa (Zac 1) (Zaa (eC (.int 6)) Zae))) Zae)) (gNm 8) Zxv)
 (Zaf (sIf (tNo (Zhq (Zai 5 Zbq (Zaa (Zac 1) (Zaa (Zac 4) (Zaa (Zai 3 Zcv (Zaa (Zac 2) (Zaa (Zac 3) (Zaa (Zac 5) Zae)))) (Zaa (eOp Zb4 (eC (.int 1)) (Zai 2 Zah (Zaa (Zac 1) (Zaa (eC (.int 5)) Zae)))) (Zaa (Zac 6) Zae)))))))) (Zaf (Zbi (eC (.bl false)))
 Zaj) Zaj)
 Zaj))) (sg ns nf ks rss pw n bs ph (some (.int k)) z8 z9 z10 z11) H) R := by
 unfold sg
 fail "g"
 refine Zuj k0 k1 fun nf' H1 f1 l1 x1 => ?_
 have m1 := m.feed x1 f1 l1
 fail "g"
 refine Zbz m1.f (by omega) (by omega) fun r H2 r0 r1 f2 x2 => ?_
 have m2 := m1.take x2 f2
 fail "g"
 refine ⟨_, rfl, by unfold Zb3; omega, ?_⟩
 refine Zo8 (fun σ H' => ∃ bs' y8 y9 y10 y11, LM nf' n pw ph ks rss bs' ps H' ∧ σ = sg ns nf' ks rss pw n bs' ph (some (.int k)) y8 y9 y10 y11) (fun _ _ _ => Zko) _ (fun x hx σ H3 ⟨bs', y8, y9, y10, y11, m3, e⟩ => ?_) _ _ ⟨bs, _, _, _, _, m2, rfl⟩ fun σ H3 ⟨bs', y8, y9, y10, y11, m3, e⟩ => ?_
 ·subst e
  unfold sg
  fail "g"
  refine Zzk (ns := ns) (nf := nf') (z7 := some (.int k)) (z8 := some x) (z9 := y9) (z10 := y10) (z11 := y11) c m3 fun bs2 H4 a9 a10 a11 m4 => ?_
  exact ⟨bs2, _, _, _, _, m4, rfl⟩
 ·subst e
  unfold sg
  obtain ⟨fz, w3⟩ := m3.w
  have lph : ph < H3.length := (List.getElem?_eq_some_iff.mp m3.h.1).1
  fail "i"
  refine Zqn c m3.hb w3 fun pd pg H4 gd gg ld lg x4 => ?_
  have m4 := m3.keep x4
  fail "g"
  refine Zbz m4.f (by omega) (by omega) fun r5 H5 r50 r51 f5 x5 => ?_
  have m5 := m4.take x5 f5
  have gd5 := x5.lst (Zal.npd m4.f gd) gd
  have gg5 := x5.lst (by simpa using m4.f.nb gg) gg
  fail "g"
  refine m5.right c hr gd5 gg5 (by omega) (by omega) (by omega) (by omega) fun ps' H6 m6 lp => ?_
  fail "g"
  exact q nf' bs' ps' H6 _ _ _ _ m6 lp
variable {H : HD} {Q : D -> HD -> Prop} {ks : List D} {rss : List (List Int)} {bs : List Bool} {n : Nat}
theorem pure_law : ∀ ns : List Int, ns.length ≤ 63 -> ∃ Hd', Zn3 [.fl (ns.map .int)] [] = some (.bl true, Hd') := by
 intro ns hn
 suffices h : wE (Zn3 [.fl (ns.map .int)] []) fun d _ => d = .bl true by
  obtain ⟨d, H, e, rfl⟩ := h; exact ⟨H, e⟩
 refine Zbu rfl ?_
 show wS (Zqe [some (.fl (ns.map .int)), none, none, none, none, none, none, none, none, none, none, none] []) _
 unfold Zqe
 fail "g"
 refine Zuj (by omega) (by omega) fun nf H1 f1 _ x1 => ?_
 fail "g"
 have lt1 := f1.lt
 refine Zbz (f1.keep (.app _)) (by omega) (by omega) fun r H2 r0 r1 f2 x2 => ?_
 obtain ⟨N, hN, eN⟩ : ∃ N : Int, (N = 5 ∨ N = 8) ∧ atI [D.int 5, .int 5, .int 5, .int 5, .int 5, .int 8] r = some (.int N) := by
  rcases (show r = 0 ∨ r = 1 ∨ r = 2 ∨ r = 3 ∨ r = 4 ∨ r = 5 by omega) with rfl | rfl | rfl | rfl | rfl | rfl
  ·exact ⟨_, .inl rfl, rfl⟩
  ·exact ⟨_, .inl rfl, rfl⟩
  ·exact ⟨_, .inl rfl, rfl⟩
  ·exact ⟨_, .inl rfl, rfl⟩
  ·exact ⟨_, .inl rfl, rfl⟩
  ·exact ⟨_, .inr rfl, rfl⟩
 refine w_ixR (x2.lst (by simp; omega) last) eN ?_
 fail "g"
 refine Zsw f2 (by omega) (by omega) fun ks rss H3 c l1 l2 f3 x3 => ?_
 fail "g"
 refine Zqa (fun σ H => ∃ rss, Cl ks rss ∧ rss.length ≤ 100 ∧ Zal nf H ∧ σ = [some (.fl (ns.map .int)), some (.ref nf), some (Zay ks rss), none, none, none, none, none, none, none, none, none]) ?_ ?_
 ·(refine WP.w_if ?_; fail "g")
  refine Zbz f3 (by omega) (by omega) fun r H4 r0 r1 f4 x4 => ?_
  fail "g"
  refine ⟨fun h => ?_, fun h => ?_⟩
  ·fail "g"
   refine Zxt f4 c (by omega) fun rss' H5 c' l5 f5 x5 => ?_
   fail "g"
   exact ⟨rfl, rss', c', by omega, f5, rfl⟩
  ·fail "g"
   exact ⟨rfl, rss, c, by omega, f4, rfl⟩
 ·rintro _ H4 ⟨rss, c, hr, f4, rfl⟩
  fail "g"
  refine Zr3 c fun pw H5 g5 l5 x5 => ?_
  have f5 := f4.keep x5
  fail "g"
  refine w_mk ?_
  fail "g"
  refine ⟨rfl, Zx2 (ks := ks) (rss := rss) last ⟨rfl, ?_⟩⟩
  rw [show (H5 ++ [DO.obj "Match" []]).set H5.length (Zbe ks rss []) = H5 ++ [Zbe ks rss []] by simp]
  fail "g"
  have m0 : LM nf H5.length pw (H5 ++ [Zbe ks rss []]).length ks rss [] [] (H5 ++ [Zbe ks rss []] ++ [.lst []]) := by
   refine ⟨(f5.keep (.app _)).keep (.app _), appL last, ⟨false, appL (appL g5)⟩, ⟨last, fun d hd => by cases hd⟩, by simp, ?_⟩
   have := f5.lt
   simp; omega
  generalize (H5 ++ [Zbe ks rss []]).length = ph at m0 ⊢
  generalize H5.length = n at m0 ⊢
  generalize H5 ++ [Zbe ks rss []] ++ [.lst []] = H6 at m0 ⊢
  obtain ⟨fz, w6⟩ := m0.w
  have lph : ph < H6.length := (List.getElem?_eq_some_iff.mp m0.h.1).1
  fail "i"
  refine Zqn (bs := []) c (by simp) w6 fun pd pg H7 gd gg ld lg x7 => ?_
  have m7 := m0.keep x7
  fail "g"
  refine Zbz m7.f (by omega) (by omega) fun r8 H8 r80 r81 f8 x8 => ?_
  have m8 := m7.take x8 f8
  have gd8 := x8.lst (Zal.npd m7.f gd) gd
  have gg8 := x8.lst (by simpa using m7.f.nb gg) gg
  fail "g"
  refine m8.right c hr gd8 gg8 (by omega) (by simp) (by omega) (by omega) fun ps9 H9 m9 lp9 => ?_
  fail "g"
  have hj : ∀ x : Int, 8 ≤ (if (if x < 28 then x else 28) > 8 then if x < 28 then x else 28 else 8) ∧ (if (if x < 28 then x else 28) > 8 then if x < 28 then x else 28 else 8) ≤ 28 := fun x => by
   split <;> (try split) <;> omega
  have hj := hj ((List.map D.int ns).length : Int)
  generalize (if (if ((List.map D.int ns).length : Int) < 28 then ((List.map D.int ns).length : Int) else 28) > 8 then if ((List.map D.int ns).length : Int) < 28 then ((List.map D.int ns).length : Int) else 28 else 8) = j at hj ⊢
  refine ⟨_, _, rfl, by unfold Zb3; omega, by unfold Zb3; omega, ?_⟩
  have rl : (Za2 1 (j - 1).toNat).length = (j - 1).toNat := by simp [Za2]
  have ri : ∀ x ∈ Za2 1 (j - 1).toNat, ∃ i : Int, x = .int i ∧ 0 ≤ i ∧ i < 1000 := fun x hx => by
   simp only [Za2, List.mem_map, List.mem_range] at hx
   obtain ⟨i, hi, rfl⟩ := hx
   exact ⟨_, rfl, by omega, by omega⟩
  refine Zd1 (fun d t σ H' => ∃ nf bs ps z7 z8 z9 z10 z11, LM nf n pw ph ks rss bs ps H' ∧ ps.length ≤ 10 + 10 * d.length ∧ d.length + t.length = (j - 1).toNat ∧ (∀ x ∈ t, ∃ i : Int, x = .int i ∧ 0 ≤ i ∧ i < 1000) ∧ σ = sg ns nf ks rss pw n bs ph z7 z8 z9 z10 z11)
   (fun _ _ _ _ _ => Zko) (fun d x t σ H' ⟨nf, bs, ps, z7, z8, z9, z10, z11, m, lp, lt, rt, e⟩ => ?_) (fun d σ H' ⟨nf, bs, ps, z7, z8, z9, z10, z11, m, lp, lt, rt, e⟩ => ?_) _ [] _ _ ⟨nf, [], ps9, none, none, none, none, none, m9, by simp at lp9 ⊢; omega, by rw [rl]; simp, ri, rfl⟩
  ·obtain ⟨i, rfl, i0, i1⟩ := rt x (by simp)
   subst e
   simp at lt
   refine ⟨_, _, rfl, ?_⟩
   refine Zyg (ns := ns) (z8 := z8) (z9 := z9) (z10 := z10) (z11 := z11) c hr m (by omega) i0 i1 fun nf' bs' ps' H2 y8 y9 y10 y11 m2 lp2 => ?_
   exact ⟨nf', bs', ps', _, _, _, _, _, m2, by simp; omega, by simp; omega, fun y hy => rt y (by simp [hy]), rfl⟩
  ·subst e
   simp at lt
   obtain ⟨fz, w⟩ := m.w
   have lph : ph < H'.length := (List.getElem?_eq_some_iff.mp m.h.1).1
   unfold sg
   fail "i"
   refine Zqn c m.hb w fun pd pg H2 gd gg ld lg x2 => ?_
   have m2 := m.keep x2
   fail "g"
   refine m2.right c hr gd gg (by omega) (by omega) (by omega) (by omega) fun ps' H3 m3 lp3 => ?_
   fail "g"
   refine w_lc2 ?_
   fail "g"
   refine ⟨_, _, by simp only [Zgn]; rw [m3.h.1], ?_⟩
   refine Znt (Zxb m3.h.1) ps' (fun d hd => ?_) ?_
   ·obtain ⟨a, b, bs, e, _, _, ga, gb⟩ := m3.h.2 d hd
    exact ⟨a, b, bs, e, ga, gb⟩
   refine ⟨by simp, ?_⟩
   fail "g"
   refine ⟨_, _, Zq6 ((Fines.nil (h := 0)).dat (by omega) (appL last)) ((Fines.nil (h := 0)).dat (by omega) last), ?_⟩
   fail "g"
   rfl
end K08
set_option maxHeartbeats 8000000
namespace K08
open PySem PySem.Spec PyProof.Rows L2 DL
noncomputable def top (i : Nat) : Stmt := PySem.Challenge.pw_allsome_k67_a_match.main.body.getD i (.Pass ⟨0, 0, 0, 0⟩)
noncomputable abbrev s_is_truth : Stmt := top 2
theorem Zmg : FnScope ["thing"] ["thing"] (Zad s_is_truth) := ⟨rfl, rfl, rfl, by decide +kernel, rfl, by decide +kernel, by decide +kernel⟩
noncomputable abbrev s_is_open : Stmt := top 3
theorem Zok : FnScope ["literal", "play"] ["literal", "play"] (Zad s_is_open) := ⟨rfl, rfl, rfl, by decide +kernel, rfl, by decide +kernel, by decide +kernel⟩
noncomputable abbrev s_is_right : Stmt := top 4
theorem Zl6 : FnScope ["literal", "play"] ["literal", "play"] (Zad s_is_right) := ⟨rfl, rfl, rfl, by decide +kernel, rfl, by decide +kernel, by decide +kernel⟩
noncomputable abbrev s_is_kept : Stmt := top 5
theorem Ziy : FnScope ["row", "play", "literal"] ["row", "play"] (Zad s_is_kept) := ⟨rfl, rfl, rfl, by decide +kernel, rfl, by decide +kernel, by decide +kernel⟩
noncomputable abbrev s_renumbered : Stmt := top 6
theorem Zje : FnScope ["literal", "many"] ["literal", "many"] (Zad s_renumbered) := ⟨rfl, rfl, rfl, by decide +kernel, rfl, by decide +kernel, by decide +kernel⟩
noncomputable abbrev s_row_left : Stmt := top 7
theorem Zmv : FnScope ["row", "play"] ["row", "play"] (Zad s_row_left) := ⟨rfl, rfl, rfl, by decide +kernel, rfl, by decide +kernel, by decide +kernel⟩
noncomputable abbrev s_left : Stmt := top 8
theorem Zr7 : FnScope ["claim", "play", "rows"] ["claim", "play"] (Zad s_left) := ⟨rfl, rfl, rfl, by decide +kernel, rfl, by decide +kernel, by decide +kernel⟩
noncomputable abbrev s_first_numbers : Stmt := top 21
theorem Zd2 : FnScope ["rows", "told", "number", "row"] ["rows"] (Zad s_first_numbers) := ⟨rfl, rfl, rfl, by decide +kernel, rfl, by decide +kernel, by decide +kernel⟩
noncomputable abbrev s_rows_behind : Stmt := top 22
theorem Ze1 : FnScope ["rows", "name", "truth", "right", "told", "row", "first"] ["rows", "name", "truth"] (Zad s_rows_behind) := ⟨rfl, rfl, rfl, by decide +kernel, rfl, by decide +kernel, by decide +kernel⟩
noncomputable abbrev s_rows_behind_play : Stmt := top 23
theorem Zc5 : FnScope ["rows", "play", "told", "name", "truth"] ["rows", "play"] (Zad s_rows_behind_play) := ⟨rfl, rfl, rfl, by decide +kernel, rfl, by decide +kernel, by decide +kernel⟩
noncomputable abbrev s_other_side : Stmt := top 24
theorem Zjd : FnScope ["side"] ["side"] (Zad s_other_side) := ⟨rfl, rfl, rfl, by decide +kernel, rfl, by decide +kernel, by decide +kernel⟩
noncomputable abbrev s_winner_behind : Stmt := top 25
theorem Zcp : FnScope ["kinds", "rows", "many", "who", "truth"] ["kinds", "rows", "many"] (Zad s_winner_behind) := ⟨rfl, rfl, rfl, by decide +kernel, rfl, by decide +kernel, by decide +kernel⟩
noncomputable abbrev s_winner : Stmt := top 26
theorem Zql : FnScope ["claim", "play"] ["claim", "play"] (Zad s_winner) := ⟨rfl, rfl, rfl, by decide +kernel, rfl, by decide +kernel, by decide +kernel⟩
noncomputable abbrev s_good_picks : Stmt := top 27
theorem Zfn : FnScope ["claim", "play", "who"] ["claim", "play"] (Zad s_good_picks) := ⟨rfl, rfl, rfl, by decide +kernel, rfl, by decide +kernel, by decide +kernel⟩
noncomputable abbrev s_law_feed : Stmt := top 31
theorem Zh3 : FnScope ["script", "k", "cell", "digits", "start"] ["script", "k"] (Zad s_law_feed) := ⟨rfl, rfl, rfl, by decide +kernel, rfl, by decide +kernel, by decide +kernel⟩
noncomputable abbrev s_law_take : Stmt := top 32
theorem Zh1 : FnScope ["feed", "many", "found"] ["feed", "many"] (Zad s_law_take) := ⟨rfl, rfl, rfl, by decide +kernel, rfl, by decide +kernel, by decide +kernel⟩
noncomputable abbrev s_law_pick : Stmt := top 33
theorem Zms : FnScope ["feed", "some"] ["feed", "some"] (Zad s_law_pick) := ⟨rfl, rfl, rfl, by decide +kernel, rfl, by decide +kernel, by decide +kernel⟩
noncomputable abbrev s_law_row : Stmt := top 35
theorem Ziz : FnScope ["feed", "many", "sizes", "size", "names", "found", "turn"] ["feed", "many"] (Zad s_law_row) := ⟨rfl, rfl, rfl, by decide +kernel, rfl, by decide +kernel, by decide +kernel⟩
noncomputable abbrev s_law_wide : Stmt := top 36
theorem Zia : FnScope ["feed", "claim", "many"] ["feed", "claim"] (Zad s_law_wide) := ⟨rfl, rfl, rfl, by decide +kernel, rfl, by decide +kernel, by decide +kernel⟩
noncomputable abbrev s_law_claim : Stmt := top 37
theorem Zgi : FnScope ["feed", "most", "rows", "many", "way", "kinds", "size", "found"] ["feed", "most", "rows"] (Zad s_law_claim) := ⟨rfl, rfl, rfl, by decide +kernel, rfl, by decide +kernel, by decide +kernel⟩
noncomputable abbrev s_law_kept : Stmt := top 38
theorem Zhz : FnScope ["row", "play", "literal"] ["row", "play"] (Zad s_law_kept) := ⟨rfl, rfl, rfl, by decide +kernel, rfl, by decide +kernel, by decide +kernel⟩
noncomputable abbrev s_law_plays : Stmt := top 39
theorem Zgq : FnScope ["many", "found", "turn", "plays", "some", "longer", "play"] ["many"] (Zad s_law_plays) := ⟨rfl, rfl, rfl, by decide +kernel, rfl, by decide +kernel, by decide +kernel⟩
noncomputable abbrev s_law_winners : Stmt := top 40
theorem Ze0 : FnScope ["claim", "found", "play", "side", "two"] ["claim"] (Zad s_law_winners) := ⟨rfl, rfl, rfl, by decide +kernel, rfl, by decide +kernel, by decide +kernel⟩
noncomputable abbrev s_law_left : Stmt := top 41
theorem Zhn : FnScope ["claim", "play", "rows", "row", "rest"] ["claim", "play"] (Zad s_law_left) := ⟨rfl, rfl, rfl, by decide +kernel, rfl, by decide +kernel, by decide +kernel⟩
noncomputable abbrev s_law_told : Stmt := top 42
theorem Zhe : FnScope ["claim", "winners", "play", "turn", "good"] ["claim", "winners", "play"] (Zad s_law_told) := ⟨rfl, rfl, rfl, by decide +kernel, rfl, by decide +kernel, by decide +kernel⟩
noncomputable abbrev s_law_deed : Stmt := top 46
theorem Zib : FnScope ["feed", "many", "play", "word", "thing", "odd"] ["feed", "many", "play"] (Zad s_law_deed) := ⟨rfl, rfl, rfl, by decide +kernel, rfl, by decide +kernel, by decide +kernel⟩
noncomputable abbrev s_Match_init : Stmt := (Zej (top 29)).getD 0 (.Pass ⟨0, 0, 0, 0⟩)
theorem Zi4 : FnScope ["self", "claim"] ["self", "claim"] (Zad s_Match_init) := ⟨rfl, rfl, rfl, by decide +kernel, rfl, by decide +kernel, by decide +kernel⟩
noncomputable abbrev s_Match_pick : Stmt := (Zej (top 29)).getD 1 (.Pass ⟨0, 0, 0, 0⟩)
theorem Zfp : FnScope ["self", "truth"] ["self", "truth"] (Zad s_Match_pick) := ⟨rfl, rfl, rfl, by decide +kernel, rfl, by decide +kernel, by decide +kernel⟩
noncomputable abbrev s_Match_back : Stmt := (Zej (top 29)).getD 2 (.Pass ⟨0, 0, 0, 0⟩)
theorem Zfx : FnScope ["self"] ["self"] (Zad s_Match_back) := ⟨rfl, rfl, rfl, by decide +kernel, rfl, by decide +kernel, by decide +kernel⟩
noncomputable abbrev s_law_done : Stmt := top 45
theorem Zhd : FnScope ["match", "word", "thing", "caught", "told", "shown", "e", "others", "kinds"] ["match", "word", "thing"] (Zad s_law_done) := ⟨rfl, rfl, rfl, by decide +kernel, rfl, by decide +kernel, by decide +kernel⟩
noncomputable abbrev s_Match_play : Stmt := (Zej (top 29)).getD 3 (.Pass ⟨0, 0, 0, 0⟩)
theorem Zjo : FnScope ["self"] ["self"] (Zad s_Match_play) := ⟨rfl, rfl, rfl, by decide +kernel, rfl, by decide +kernel, by decide +kernel⟩
noncomputable abbrev s_Match_turn : Stmt := (Zej (top 29)).getD 4 (.Pass ⟨0, 0, 0, 0⟩)
theorem Zjj : FnScope ["self"] ["self"] (Zad s_Match_turn) := ⟨rfl, rfl, rfl, by decide +kernel, rfl, by decide +kernel, by decide +kernel⟩
noncomputable abbrev s_Match_who : Stmt := (Zej (top 29)).getD 5 (.Pass ⟨0, 0, 0, 0⟩)
theorem Zlo : FnScope ["self"] ["self"] (Zad s_Match_who) := ⟨rfl, rfl, rfl, by decide +kernel, rfl, by decide +kernel, by decide +kernel⟩
noncomputable abbrev s_Match_good : Stmt := (Zej (top 29)).getD 6 (.Pass ⟨0, 0, 0, 0⟩)
theorem Zi7 : FnScope ["self"] ["self"] (Zad s_Match_good) := ⟨rfl, rfl, rfl, by decide +kernel, rfl, by decide +kernel, by decide +kernel⟩
noncomputable abbrev s_Match_left : Stmt := (Zej (top 29)).getD 7 (.Pass ⟨0, 0, 0, 0⟩)
theorem Zjn : FnScope ["self"] ["self"] (Zad s_Match_left) := ⟨rfl, rfl, rfl, by decide +kernel, rfl, by decide +kernel, by decide +kernel⟩
noncomputable abbrev s_law_asked : Stmt := top 43
theorem Zlm : FnScope ["match", "which"] ["match", "which"] (Zad s_law_asked) := ⟨rfl, rfl, rfl, by decide +kernel, rfl, by decide +kernel, by decide +kernel⟩
noncomputable abbrev s_law_right : Stmt := top 44
theorem Zgm : FnScope ["feed", "match", "due", "many", "held", "first", "step", "turn", "which", "found"] ["feed", "match", "due", "many", "held"] (Zad s_law_right) := ⟨rfl, rfl, rfl, by decide +kernel, rfl, by decide +kernel, by decide +kernel⟩
noncomputable abbrev s_law : Stmt := top 47
theorem Zui : FnScope ["script", "feed", "claim", "winners", "match", "play", "held", "k", "turn", "word", "thing", "due"] ["script"] (Zad s_law) := ⟨rfl, rfl, rfl, by decide +kernel, rfl, by decide +kernel, by decide +kernel⟩
structure Top (K : PySem.W.Frag) (mg : Str -> Option Value) : Prop where
 t_is_truth : Tf K mg "is_truth" K08.s_is_truth
 t_is_open : Tf K mg "is_open" K08.s_is_open
 t_is_right : Tf K mg "is_right" K08.s_is_right
 t_is_kept : Tf K mg "is_kept" K08.s_is_kept
 t_renumbered : Tf K mg "renumbered" K08.s_renumbered
 t_row_left : Tf K mg "row_left" K08.s_row_left
 t_left : Tf K mg "left" K08.s_left
 t_first_numbers : Tf K mg "first_numbers" K08.s_first_numbers
 t_rows_behind : Tf K mg "rows_behind" K08.s_rows_behind
 t_rows_behind_play : Tf K mg "rows_behind_play" K08.s_rows_behind_play
 t_other_side : Tf K mg "other_side" K08.s_other_side
 t_winner_behind : Tf K mg "winner_behind" K08.s_winner_behind
 t_winner : Tf K mg "winner" K08.s_winner
 t_good_picks : Tf K mg "good_picks" K08.s_good_picks
 t_law_feed : Tf K mg "_law_feed" K08.s_law_feed
 t_law_take : Tf K mg "_law_take" K08.s_law_take
 t_law_pick : Tf K mg "_law_pick" K08.s_law_pick
 t_law_row : Tf K mg "_law_row" K08.s_law_row
 t_law_wide : Tf K mg "_law_wide" K08.s_law_wide
 t_law_claim : Tf K mg "_law_claim" K08.s_law_claim
 t_law_kept : Tf K mg "_law_kept" K08.s_law_kept
 t_law_plays : Tf K mg "_law_plays" K08.s_law_plays
 t_law_winners : Tf K mg "_law_winners" K08.s_law_winners
 t_law_left : Tf K mg "_law_left" K08.s_law_left
 t_law_told : Tf K mg "_law_told" K08.s_law_told
 t_law_deed : Tf K mg "_law_deed" K08.s_law_deed
 t_Match_init : Ti K mg "Match" "Match.__init__" K08.s_Match_init
 t_Match_pick : Tm K "Match" "pick" "Match.pick" K08.s_Match_pick
 t_Match_back : Tm K "Match" "back" "Match.back" K08.s_Match_back
 t_law_done : Tf K mg "_law_done" K08.s_law_done
 t_Match_play : Tm K "Match" "play" "Match.play" K08.s_Match_play
 t_Match_turn : Tm K "Match" "turn" "Match.turn" K08.s_Match_turn
 t_Match_who : Tm K "Match" "who" "Match.who" K08.s_Match_who
 t_Match_good : Tm K "Match" "good" "Match.good" K08.s_Match_good
 t_Match_left : Tm K "Match" "left" "Match.left" K08.s_Match_left
 t_law_asked : Tf K mg "_law_asked" K08.s_law_asked
 t_law_right : Tf K mg "_law_right" K08.s_law_right
 t_law : Tf K mg "law" K08.s_law
 l_Match : Kl K "Match" ["begun", "picked"]
 a_left_claims : mg "left_claims" = mg "left"
 n_ValueError : mg "ValueError" = none
 n_abs : mg "abs" = none
 n_enumerate : mg "enumerate" = none
 n_int : mg "int" = none
 n_isinstance : mg "isinstance" = none
 n_len : mg "len" = none
 n_list : mg "list" = none
 n_max : mg "max" = none
 n_min : mg "min" = none
 n_range : mg "range" = none
 n_repr : mg "repr" = none
 n_reversed : mg "reversed" = none
 n_sorted : mg "sorted" = none
 n_tuple : mg "tuple" = none
 c_TRUTHS : Gc K mg "TRUTHS" k_TRUTHS
 x_ClaimError : Cat K mg "ClaimError" ["NoBack", "NoPick"]
 x_l : Zkh K ["NoBack", "NoPick"]
 xi_NoPick : ∃ c, mg "NoPick" = some (.ref c) ∧ Is1 K (.ref c) [("NoBack", false), ("NoPick", true)]
 xi_NoBack : ∃ c, mg "NoBack" = some (.ref c) ∧ Is1 K (.ref c) [("NoBack", true), ("NoPick", false)]
 x_v : Is1 K (.type "ValueError") [("NoBack", true), ("NoPick", true)]
 xt_0 : ∃ c0 c1 c2 c3 c4 c5, IsN K [c0, c1, c2, c3, c4, c5] [("NoBack", false), ("NoPick", false)] ∧ mg "NoLine" = some (.ref c0) ∧ mg "NoRow" = some (.ref c1) ∧ mg "NoStep" = some (.ref c2) ∧ mg "NoText" = some (.ref c3) ∧ mg "NotWon" = some (.ref c4) ∧ mg "TooMany" = some (.ref c5)
section
variable {P : Program} {w : World} {K : PySem.W.Frag} {mg : Str -> Option Value} {base : Heap}
local macro_rules | `(tactic| fail $s:str) => do
 if s.getString.take 1 != "~" then Lean.Macro.throwUnsupported
 let i := fun (x : String) => Lean.mkIdent x.toName
 let mut o : Array (Lean.TSyntax `tactic) := #[]
 for w in (s.getString.drop 1).toString.splitOn " " do
  o := o.push (← match w with
   | "a" => `(tactic| rfl)
   | "b" => `(tactic| refine paf_c ?_ ?_ ?_)
   | "c" => `(tactic| exact Zgd)
   | "d" => `(tactic| refine Zh2 ?_ ?_)
   | "e" => `(tactic| refine Zh2 ?_ Zj8)
   | "f" => `(tactic| first | exact Or.inl rfl | exact Or.inr rfl)
   | "g" => `(tactic| exact $(i "nd"))
   | "h" => `(tactic| exact (Zab (pv 1)))
   | "i" => `(tactic| exact Zag)
   | "j" => `(tactic| exact (Zab (pv 0)))
   | "k" => `(tactic| refine Znv ?_ ?_ Zj8)
   | "l" => `(tactic| refine Zc3 ?_)
   | "m" => `(tactic| refine Zc4 Zro ?_ $(i "T.n_len") Zus ?_)
   | "n" => `(tactic| exact (Zab (pv 2)))
   | "o" => `(tactic| intro _ _ _ _ _ _)
   | "p" => `(tactic| exact Zcq)
   | "q" => `(tactic| decide)
   | "r" => `(tactic| refine Zps ?_)
   | "s" => `(tactic| refine Zaw ($(i "ok_law_take") $(i "T")) ($(i "hr.mono") (by decide)) ?_ ?_)
   | "t" => `(tactic| exact Zct ixf (Zab (pv 0)) Zag (fun _ _ => rfl))
   | "u" => `(tactic| refine Zwb $(i "T.l_Match") ?_ (Zab (pv 0)))
   | "v" => `(tactic| refine Zrl ?_)
   | "w" => `(tactic| exact (Zab (pv 3)))
   | "x" => `(tactic| refine Zxr PassesOwn.never ?_ ?_ ?_ ?_)
   | "y" => `(tactic| refine Zct ixf ?_ ?_ (fun _ _ => rfl))
   | "z" => `(tactic| exact (Zab (pv 4)))
   | "A" => `(tactic| exact Zlq)
   | "B" => `(tactic| refine Zbb (i := 3) ?_ ?_ ?_ ?_)
   | "C" => `(tactic| refine Zfy ?_ (fun _ => rfl))
   | "D" => `(tactic| refine Zbb (i := 2) ?_ ?_ ?_ ?_)
   | "E" => `(tactic| exact Zc3 Zlq)
   | "F" => `(tactic| exact (Zab (pv 5)))
   | "G" => `(tactic| exact Zps Zgd)
   | "H" => `(tactic| refine Zsp ?_)
   | "I" => `(tactic| refine Ze6 ?_)
   | "J" => `(tactic| refine Zvc ?_)
   | "K" => `(tactic| refine Zgg Zlz ?_ $(i "T.n_tuple") Zt9 ?_)
   | "L" => `(tactic| refine Zbb (i := 4) ?_ ?_ ?_ ?_)
   | "M" => `(tactic| refine Zn5 ?_ $(i "T.n_range") ?_)
   | "N" => `(tactic| refine Zaw ($(i "ok_law_pick") $(i "T")) ($(i "hr.mono") (by decide)) ?_ ?_)
   | "O" => `(tactic| refine Zas (Zb6 $(i "hr.units")) ?_ Zag (Zat _))
   | "P" => `(tactic| refine Zbb (i := 5) ?_ ?_ ?_ ?_)
   | "Q" => `(tactic| exact Zt8)
   | "R" => `(tactic| refine Zas (Zb6 $(i "hr.units")) ?_ ?_ (Zat _))
   | "S" => `(tactic| exact Zrl Zgd)
   | "T" => `(tactic| refine Zsg ?_)
   | "U" => `(tactic| exact Zct ixf (Zab (pv 1)) Zag (fun _ _ => rfl))
   | "V" => `(tactic| refine Zgg Zqv ?_ $(i "T.n_int") Yay ?_)
   | "W" => `(tactic| refine Zc4 Zp2 ?_ $(i "T.n_abs") Zz5 ?_)
   | "X" => `(tactic| refine Zar Zbw (Zab (pv 2)) ?_)
   | "Y" => `(tactic| refine Za9 (i := 2) ?_ ?_ ?_)
   | "Z" => `(tactic| exact Zng Zjh Zag)
   | "0" => `(tactic| refine Zf0 ?_ ?_)
   | "1" => `(tactic| refine Zvf ?_ ?_)
   | "2" => `(tactic| exact Zas (Zb6 $(i "hr.units")) (Zab (pv 1)) Zag (Zat _))
   | "3" => `(tactic| refine Zc4 (Zoe $(i "hr")) ?_ $(i "T.n_repr") Zx1 ?_)
   | "4" => `(tactic| refine Zct ixf (Zab (pv 1)) ?_ (fun _ _ => rfl))
   | "5" => `(tactic| refine Zct ixf ?_ Zag (fun _ _ => rfl))
   | "6" => `(tactic| refine Zbb (i := 6) ?_ ?_ ?_ ?_)
   | "7" => `(tactic| refine Zar Zh8 ?_ Zag)
   | "8" => `(tactic| refine Zar Zbw ?_ Zag)
   | "9" => `(tactic| refine Zar Zbw Zag ?_)
   | "aa" => `(tactic| exact Zh2 Zxc Zj8)
   | "ab" => `(tactic| refine Zar Zbw ?_ ?_)
   | "ac" => `(tactic| exact (Zab (pv 6)))
   | "ad" => `(tactic| exact (Zab (pv 9)))
   | "ae" => `(tactic| exact Zc3 Zcq)
   | "af" => `(tactic| exact $(i "T.n_isinstance"))
   | "ag" => `(tactic| refine Zct (Zsl $(i "hr.units")) (Zab (pv 1)) ?_ (fun _ _ => rfl))
   | "ah" => `(tactic| refine Zas (Zb6 $(i "hr.units")) ?_ (Zab (pv 3)) (Zat _))
   | "ai" => `(tactic| refine Zc4 (Zrq (by rfl)) ?_ $(i "T.n_min") Yab ?_)
   | "aj" => `(tactic| refine Zaw ($(i "ok_law_right") $(i "T")) ($(i "hr.mono") (by decide)) ?_ ?_)
   | "ak" => `(tactic| refine Zaw ($(i "ok_is_truth") $(i "T")) ($(i "hr.mono") (by decide)) ?_ ?_)
   | "al" => `(tactic| refine Zaw ($(i "ok_law_told") $(i "T")) ($(i "hr.mono") (by decide)) ?_ ?_)
   | "am" => `(tactic| refine Zr0 $(i "T.l_Match") ?_ (Zab (pv 0)) ?_)
   | "an" => `(tactic| exact Zar Zbw (Zab (pv 2)) Zag)
   | "ao" => `(tactic| refine Zrv (by rfl) $(i "hE") (by rfl) ?_)
   | "U1" => `(tactic| (intro _ _ _ _ _ _ us hl; obtain ⟨_, e⟩ := us1 hl; subst e; rfl))
   | "U2" => `(tactic| (intro _ _ _ _ _ _ us hl; obtain ⟨_, _, e⟩ := us2 hl; subst e; rfl))
   | "U3" => `(tactic| (intro _ _ _ _ _ _ us hl; obtain ⟨_, _, _, e⟩ := us3 hl; subst e; rfl))
   | "U5" => `(tactic| (intro _ _ _ _ _ _ us hl; obtain ⟨_, _, _, _, _, e⟩ := us5 hl; subst e; rfl))
   | _ => Lean.Macro.throwUnsupported)
 `(tactic| ($[$o]*))
theorem ok_is_truth (T : Top K mg) : Fn P w K mg base 1 "is_truth" ["thing"] Zcy := by
 refine (fun h => h : _ → Fn P w K mg base 1 "is_truth" ["thing"] (Za5 1 1 Zb8)) (Zbr (N := ["thing"]) (k := 0) T.t_is_truth Zmg (by fail "~U1") ?_)
 intro f cdv A outer s H E hr
 unfold Zb8
 fail "~e l"
 refine Zyq ?_ ?_
 exact Zcd Znb (Zab (pv 0)) Zlq (Zat _)
 refine Zq5 ?_
 exact Zcd Znb (Zab (pv 0)) Zlq (Zat _)
theorem Ziw (T : Top K mg) : Fn P w K mg base 1 "is_open" ["literal", "play"] Zfq := by
 refine (fun h => h : _ → Fn P w K mg base 1 "is_open" ["literal", "play"] (Za5 2 2 Zd9)) (Zbr (N := ["literal", "play"]) (k := 0) T.t_is_open Zok (by fail "~U2") ?_)
 intro f cdv A outer s H E hr
 unfold Zd9
 fail "~e l"
 refine Zcd Zhv ?_ ?_ (Zat _)
 fail "~W a b j c a m a b h c a"
theorem Zmk (T : Top K mg) : Fn P w K mg base 2 "is_right" ["literal", "play"] Zgh := by
 refine (fun h => h : _ → Fn P w K mg base 2 "is_right" ["literal", "play"] (Za5 2 2 Zdd)) (Zbr (N := ["literal", "play"]) (k := 1) T.t_is_right Zl6 (by fail "~U2") ?_)
 intro f cdv A outer s H E hr
 unfold Zdd
 fail "~e l"
 refine Zxs ?_ ?_
 refine Zwr ?_
 refine Zaw (Ziw T) (hr.mono (by decide)) ?_ ?_
 fail "~a b j b h c a a"
 refine Zq5 ?_
 refine Zcd (Zb6 hr.units) ?_ ?_ (Zat _)
 fail "~4"
 refine Zar Zfb ?_ Zag
 fail "~W a b j c a"
 exact Zcd Zhv (Zab (pv 0)) Zag (Zat _)
theorem Zoq (T : Top K mg) : Fn P w K mg base 3 "is_kept" ["row", "play"] Zid := by
 refine (fun h => h : _ → Fn P w K mg base 3 "is_kept" ["row", "play"] (Za5 2 3 Zeb)) (Zbr (N := ["row", "play", "literal"]) (k := 2) T.t_is_kept Ziy (by fail "~U2") ?_)
 intro f cdv A outer s H E hr
 unfold Zeb
 fail "~d x a"
 exact Ze6 (Zab (pv 0))
 fail "~Y"
 exact Ziy.nd
 fail "~a f e k C"
 refine Zaw (Zmk T) (hr.mono (by decide)) ?_ ?_
 fail "~a b n b h c a a e E e E"
theorem Zjb (T : Top K mg) : Fn P w K mg base 1 "renumbered" ["literal", "many"] Zd6 := by
 refine (fun h => h : _ → Fn P w K mg base 1 "renumbered" ["literal", "many"] (Za5 2 2 Zco)) (Zbr (N := ["literal", "many"]) (k := 0) T.t_renumbered Zje (by fail "~U2") ?_)
 intro f cdv A outer s H E hr
 unfold Zco
 fail "~e l"
 refine Zi3 ?_ ?_ ?_
 exact Zas Zhv (Zab (pv 0)) Zag (Zat _)
 exact Zar Zfb (Zab (pv 0)) (Zab (pv 1))
 exact Zar Zbw (Zab (pv 0)) (Zab (pv 1))
theorem Zmx (T : Top K mg) : Fn P w K mg base 2 "row_left" ["row", "play"] Zgc := by
 refine (fun h => h : _ → Fn P w K mg base 2 "row_left" ["row", "play"] (Za5 2 2 Zdp)) (Zbr (N := ["row", "play"]) (k := 1) T.t_row_left Zmv (by fail "~U2") ?_)
 intro f cdv A outer s H E hr
 unfold Zdp
 fail "~e l K a b"
 refine Zi0 (cn := ["play"]) ?_ (Zd0 (x := "literal") (cn := ["play"]) (ci := [1]) (by decide +kernel)) ?_ ?_ ?_
 fail "~a"
 exact Ze6 (Zab (pv 0))
 fail "~o T C"
 refine Zaw (Ziw T) (hr.mono (by decide)) ?_ ?_
 fail "~a b j b h c a a o"
 refine Zaw (Zjb T) (hr.mono (by decide)) ?_ ?_
 fail "~a b j b m a b h c a c a a c a"
theorem Zwh (T : Top K mg) : Fn P w K mg base 4 "left" ["claim", "play"] Zqk := by
 refine (fun h => h : _ → Fn P w K mg base 4 "left" ["claim", "play"] (Za5 2 3 Zk4)) (Zbr (N := ["claim", "play", "rows"]) (k := 3) T.t_left Zr7 (by fail "~U2") ?_)
 intro f cdv A outer s H E hr
 unfold Zk4
 fail "~d"
 refine Zdr (i := 2) (cn := ["play"]) ?_ (Zd0 (x := "row") (cn := ["play"]) (ci := [1]) (by decide +kernel)) ?_ ?_ ?_ ?_ ?_ ?_
 fail "~a I t o T J C"
 refine Zaw (Zoq T) (hr.mono (by decide)) ?_ ?_
 fail "~a b j b h c a a o"
 refine Zaw (Zmx T) (hr.mono (by decide)) ?_ ?_
 fail "~a b j b h c a a"
 exact Zr7.nd
 fail "~a a e l v b"
 refine Zc7 ?_ ?_ Zdz
 fail "~t"
 refine Zdy ?_
 fail "~m a b h c a b K a b n c a c a a"
theorem Zgv (T : Top K mg) : Fn P w K mg base 1 "first_numbers" ["rows"] Zb2 := by
 refine (fun h => h : _ → Fn P w K mg base 1 "first_numbers" ["rows"] (Za5 1 4 Zbn)) (Zbr (N := ["rows", "told", "number", "row"]) (k := 0) T.t_first_numbers Zd2 (by fail "~U1") ?_)
 intro f cdv A outer s H E hr
 unfold Zbn
 have nd := Zd2.nd
 fail "~d"
 refine Zbb (i := 1) ?_ ?_ ?_ Zjy
 fail "~g a f d x a"
 refine Zsy ?_ T.n_enumerate ?_
 fail "~a b j c a"
 refine Zmw ?_ ?_
 fail "~a 0 Y g a f"
 refine Zf0 ?_ Zkc
 refine Za9 (i := 3) ?_ ?_ ?_
 fail "~g a f e H"
 refine Zrn PySem.F.slot_dict_setdefault PySem.F.type_dict_setdefault (Zvg hr.units) (Zab (pv 1)) ?_
 fail "~b w b n c a a e"
 exact Zc3 (Zab (pv 1))
theorem Ze3 (T : Top K mg) : Fn P w K mg base 1 "rows_behind" ["rows", "name", "truth"] Zax := by
 refine (fun h => h : _ → Fn P w K mg base 1 "rows_behind" ["rows", "name", "truth"] (Za5 3 7 Zby)) (Zbr (N := ["rows", "name", "truth", "right", "told", "row", "first"]) (k := 0) T.t_rows_behind Ze1 (by fail "~U3") ?_)
 intro f cdv A outer s H E hr
 unfold Zby
 have nd := Ze1.nd
 fail "~d B g a f"
 refine Zi3 ?_ (Zab (pv 1)) ?_
 exact Zfy (Zab (pv 2)) (fun _ => rfl)
 exact Zng Zjh (Zab (pv 1))
 fail "~d"
 refine Zbb (i := 4) ?_ ?_ ?_ Zjy
 fail "~g a f d x a"
 exact Zw5 (Zab (pv 0))
 refine Za9 (i := 5) ?_ ?_ ?_
 fail "~g a f d 6 g a f"
 refine Zi3 ?_ ?_ Zag
 exact Zfy (Zab (pv 5)) (fun _ => rfl)
 exact Zct ixf (Zab (pv 5)) Zag (fun _ _ => rfl)
 fail "~e"
 refine Znv ?_ ?_ ?_
 refine Zas (Zb6 hr.units) (Zab (pv 6)) ?_ (Zat _)
 exact Zng Zjh (Zab (pv 3))
 fail "~e H"
 refine Zrn PySem.F.slot_dict_setdefault PySem.F.type_dict_setdefault (Zvg hr.units) (Zab (pv 4)) ?_
 fail "~b"
 refine Zc7 (Zab (pv 5)) ?_ Zdz
 exact Zdy Zag
 fail "~b"
 exact Zct (Zsl hr.units) (Zab (pv 0)) (Zab (pv 5)) (fun _ _ => rfl)
 fail "~c a a e k"
 exact Zas (Zhl hr.units) (Zab (pv 6)) (Zab (pv 3)) (Zat _)
 fail "~e H"
 refine Zrn PySem.F.slot_dict_setdefault PySem.F.type_dict_setdefault (Zvg hr.units) (Zab (pv 4)) ?_
 fail "~b F b"
 exact Zct (Zsl hr.units) (Zab (pv 0)) (Zab (pv 5)) (fun _ _ => rfl)
 fail "~c a a e"
 exact Zc3 (Zab (pv 4))
theorem Zfh (T : Top K mg) : Fn P w K mg base 2 "rows_behind_play" ["rows", "play"] Zbk := by
 refine (fun h => h : _ → Fn P w K mg base 2 "rows_behind_play" ["rows", "play"] (Za5 2 5 Za8)) (Zbr (N := ["rows", "play", "told", "name", "truth"]) (k := 1) T.t_rows_behind_play Zc5 (by fail "~U2") ?_)
 intro f cdv A outer s H E hr
 unfold Za8
 have nd := Zc5.nd
 fail "~d D g a f"
 refine Zaw (Zgv T) (hr.mono (by decide)) ?_ ?_
 fail "~a b j c a d x a"
 refine Zrg ?_ T.n_enumerate ?_
 fail "~a b h c a"
 refine Zmw ?_ ?_
 fail "~a 0"
 refine Za9 (i := 3) ?_ ?_ ?_
 fail "~g a f"
 refine Zf0 ?_ Zkc
 refine Za9 (i := 4) ?_ ?_ ?_
 fail "~g a f e D g a f"
 refine Zaw (Ze3 T) (hr.mono (by decide)) ?_ ?_
 fail "~a b n b w b z c a a a e"
 exact Zc3 (Zab (pv 2))
theorem Zju (T : Top K mg) : Fn P w K mg base 1 "other_side" ["side"] Zbt := by
 refine (fun h => h : _ → Fn P w K mg base 1 "other_side" ["side"] (Za5 1 1 Zcf)) (Zbr (N := ["side"]) (k := 0) T.t_other_side Zjd (by fail "~U1") ?_)
 intro f cdv A outer s H E hr
 unfold Zcf
 fail "~e l"
 refine Zi3 ?_ Zcq Zcq
 exact Zas (Zb6 hr.units) (Zab (pv 0)) Zcq (Zat _)
theorem Zgx (T : Top K mg) : Fn P w K mg base 12 "winner_behind" ["kinds", "rows", "many"] Zb1 := by
 refine (fun h => h : _ → Fn P w K mg base 12 "winner_behind" ["kinds", "rows", "many"] (Zv2 3 5 Zap 10)) (Zuh (N := ["kinds", "rows", "many", "who", "truth"]) (k := 1) T.t_winner_behind Zcp (by fail "~U3") ?_ 10)
 intro F j G f cdv A outer s H E hr
 unfold Zap
 fail "~d k"
 refine Zas (dinf hr.units) ?_ (Zab (pv 1)) ?_
 fail "~S"
 with_unfolding_all rfl
 fail "~e ae d k O"
 refine Zc4 Zn9 ?_ T.n_len Zus ?_
 fail "~a b h c a e ae d B"
 exact Zcp.nd
 fail "~a f"
 exact Zct ixf (Zab (pv 0)) (Zab (pv 2)) (fun _ _ => rfl)
 fail "~d x a I"
 refine Zut ?_ T.c_TRUTHS
 fail "~a"
 refine Za9 (i := 4) ?_ ?_ ?_
 exact Zcp.nd
 fail "~a f e k ah"
 refine Zaw G (hr.mono (Nat.le_refl _)) ?_ ?_
 fail "~a b j b"
 refine Zaw (Ze3 T) (hr.mono (by omega)) ?_ ?_
 fail "~a b h b an b z c a a a b an c a a a e"
 exact Zc3 (Zab (pv 3))
 fail "~e l"
 refine Zaw (Zju T) (hr.mono (by omega)) ?_ ?_
 fail "~a b w c a"
theorem Zlv (T : Top K mg) : Fn P w K mg base 13 "winner" ["claim", "play"] Zfm := by
 refine (fun h => h : _ → Fn P w K mg base 13 "winner" ["claim", "play"] (Za5 2 2 Zfz)) (Zbr (N := ["claim", "play"]) (k := 12) T.t_winner Zql (by fail "~U2") ?_)
 intro f cdv A outer s H E hr
 unfold Zfz
 fail "~e l"
 refine Zaw (Zgx T) (hr.mono (by decide)) ?_ ?_
 fail "~a b t b"
 refine Zaw (Zfh T) (hr.mono (by decide)) ?_ ?_
 fail "~a b t b h c a a b m a b h c a c a a a"
theorem Zj1 (T : Top K mg) : Fn P w K mg base 14 "good_picks" ["claim", "play"] Zd5 := by
 refine (fun h => h : _ → Fn P w K mg base 14 "good_picks" ["claim", "play"] (Za5 2 3 Zcg)) (Zbr (N := ["claim", "play", "who"]) (k := 13) T.t_good_picks Zfn (by fail "~U2") ?_)
 intro f cdv A outer s H E hr
 unfold Zcg
 fail "~d k R m a b h c a m a b t c a e l G d D"
 exact Zfn.nd
 fail "~a f y t m a b h c a e l"
 refine Zi0 (cn := ["claim", "play", "who"]) ?_ (Zd0 (x := "truth") (cn := ["claim", "play", "who"]) (ci := [0, 1, 2]) (by decide +kernel)) ?_ ?_ ?_
 fail "~a I"
 refine Zut ?_ T.c_TRUTHS
 fail "~a o T ah"
 refine Zaw (Zlv T) (hr.mono (by decide)) ?_ ?_
 fail "~a b h b X v b j c a c a a o j"
theorem Zhr (T : Top K mg) : Fn P w K mg base 1 "_law_feed" ["script", "k"] Zcb := by
 refine (fun h => h : _ → Fn P w K mg base 1 "_law_feed" ["script", "k"] (Za5 2 5 Zb9)) (Zbr (N := ["script", "k", "cell", "digits", "start"]) (k := 0) T.t_law_feed Zh3 (by fail "~U2") ?_)
 intro f cdv A outer s H E hr
 unfold Zb9
 have nd := Zh3.nd
 fail "~d"
 refine Zbb (i := 2) ?_ ?_ ?_ Zag
 fail "~g a f d k"
 refine Zas Zqz (Zab (pv 1)) ?_ (Zat _)
 fail "~m a b j c a e D g a f"
 exact Zct ixf (Zab (pv 0)) (Zab (pv 1)) (fun _ _ => rfl)
 fail "~d"
 refine Zbb (i := 3) ?_ ?_ ?_ Zag
 fail "~g a f d k"
 refine Zas Yba (Zab (pv 2)) ?_ (Zat _)
 exact Zar Zj5 Zag Zag
 fail "~e B g a f"
 refine Zar Zfb (Zab (pv 2)) ?_
 exact Zar Zj5 Zag Zag
 fail "~d L g a f 7 8 ab"
 refine Zar Zei ?_ Zag
 exact Zar Zh8 (Zab (pv 2)) Zag
 exact Zar Zei Zag (Zab (pv 1))
 fail "~e l r b w b 8 7"
 exact Zar Zj5 (Zab (pv 4)) Zag
 fail "~c a a"
theorem ok_law_take (T : Top K mg) : Fn P w K mg base 1 "_law_take" ["feed", "many"] Zah := by
 refine (fun h => h : _ → Fn P w K mg base 1 "_law_take" ["feed", "many"] (Za5 2 3 Zb7)) (Zbr (N := ["feed", "many", "found"]) (k := 0) T.t_law_take Zh1 (by fail "~U2") ?_)
 intro f cdv A outer s H E hr
 unfold Zb7
 fail "~d k"
 refine Zas Zhv ?_ Zag (Zat _)
 fail "~t d D"
 exact Zh1.nd
 fail "~a f"
 refine Zar Zh8 ?_ (Zab (pv 1))
 fail "~t d 1"
 refine Zar Zg6 ?_ (Zab (pv 1))
 fail "~t"
 exact Zjp (Zab (pv 0)) Zag setf
 fail "~e"
 exact Zc3 (Zab (pv 2))
 fail "~d 1 7 8"
 refine Zar Zei ?_ Zag
 fail "~t"
 exact Zjp (Zab (pv 0)) Zag setf
 fail "~e l"
 refine Zar Zh8 ?_ (Zab (pv 1))
 refine Zar Zg6 ?_ Zag
 fail "~t"
theorem ok_law_pick (T : Top K mg) : Fn P w K mg base 2 "_law_pick" ["feed", "some"] Za7 := by
 refine (fun h => h : _ → Fn P w K mg base 2 "_law_pick" ["feed", "some"] (Za5 2 2 Zcu)) (Zbr (N := ["feed", "some"]) (k := 1) T.t_law_pick Zms (by fail "~U2") ?_)
 intro f cdv A outer s H E hr
 unfold Zcu
 fail "~e l 4 s a b j b m a b h c a c a a"
theorem Zi1 (T : Top K mg) : Fn P w K mg base 3 "_law_row" ["feed", "many"] Zfu := by
 refine (fun h => h : _ → Fn P w K mg base 3 "_law_row" ["feed", "many"] (Za5 2 7 Zek)) (Zbr (N := ["feed", "many", "sizes", "size", "names", "found", "turn"]) (k := 2) T.t_law_row Ziz (by fail "~U2") ?_)
 intro f cdv A outer s H E hr
 unfold Zek
 have nd := Ziz.nd
 fail "~d D g a f r b i b i b i b i b i b i b i b i b i b 9 s a b j b i c a a b i b"
 refine Zar Zei Zag ?_
 fail "~V a b"
 refine Zcd Zhv ?_ Zag (Zat _)
 fail "~s a b j b i c a a c a c a a a a a a a a a a a a d B g a f ai a b h b N a b j b n c a a c a a d L g a f"
 refine Zov ?_ ?_ T.n_list ?_ T.n_range ?_
 fail "~a a a b i b"
 exact Zar Zbw (Zab (pv 1)) Zag
 fail "~c a a d P g a f G d x a M a b w c a"
 refine Za9 (i := 6) ?_ ?_ ?_
 fail "~g a f e H"
 refine Zf3 PySem.F.slot_list_append PySem.F.type_list_append Zcx (Zab (pv 5)) ?_
 fail "~b"
 refine Zf3 PySem.F.slot_list_pop PySem.F.type_list_pop Zxx (Zab (pv 4)) ?_
 fail "~b s a b j b m a b z c a c a a c a c a e l K a b"
 refine Zi0 (cn := ["feed"]) ?_ (Zd0 (x := "name") (cn := ["feed"]) (ci := [0]) (by decide +kernel)) ?_ ?_ ?_
 fail "~a I"
 refine Zc4 Zla ?_ T.n_sorted Zrj ?_
 fail "~a b F c a o Q o y r b j b"
 exact Zng Zjh (Zab (pv 0))
 fail "~c a a s a b h b i c a a c a"
theorem Zmh (T : Top K mg) : Fn P w K mg base 4 "_law_wide" ["feed", "claim"] Zf5 := by
 refine (fun h => h : _ → Fn P w K mg base 4 "_law_wide" ["feed", "claim"] (Za5 2 3 Zdo)) (Zbr (N := ["feed", "claim", "many"]) (k := 3) T.t_law_wide Zia (by fail "~U2") ?_)
 intro f cdv A outer s H E hr
 unfold Zdo
 fail "~d D"
 exact Zia.nd
 fail "~a f 9 s a b j b i c a a d k O s a b j b i c a a e l v b U b ab"
 refine Zar Zei ?_ (Zab (pv 2))
 refine Zc7 ?_ Zdz ?_
 fail "~U"
 exact Zdy Zag
 fail "~U c a a e l v b U b ab K a b"
 refine Zi0 (cn := ["feed", "claim"]) ?_ (Zd0 (x := "turn") (cn := ["feed", "claim"]) (ci := [0, 1]) (by decide +kernel)) ?_ ?_ ?_
 fail "~a M a b n c a o Q o"
 refine Zaw (Zi1 T) (hr.mono (by decide)) ?_ ?_
 fail "~a b h b m a b"
 exact Zct ixf (Zab (pv 2)) Zag (fun _ _ => rfl)
 fail "~c a c a a c a U c a a"
theorem Zll (T : Top K mg) : Fn P w K mg base 4 "_law_claim" ["feed", "most", "rows"] Zfa := by
 refine (fun h => h : _ → Fn P w K mg base 4 "_law_claim" ["feed", "most", "rows"] (Za5 3 8 Zcz)) (Zbr (N := ["feed", "most", "rows", "many", "way", "kinds", "size", "found"]) (k := 3) T.t_law_claim Zgi (by fail "~U3") ?_)
 intro f cdv A outer s H E hr
 unfold Zcz
 have nd := Zgi.nd
 fail "~d B g a f N a b j b r b h b"
 exact Zar Zfb (Zab (pv 1)) Zag
 fail "~b h b"
 exact Zar Zfb (Zab (pv 1)) Zag
 fail "~b h b s a b j b"
 exact Zar Zbw (Zab (pv 1)) Zag
 fail "~c a a c a a a a a a c a a d L g a f s a b j b i c a a d"
 refine Zdr (i := 5) (cn := ["feed"]) ?_ (Zd0 (x := "k") (cn := ["feed"]) (ci := [0]) (by decide +kernel)) ?_ ?_ ?_ ?_ ?_ ?_
 fail "~a M a b w c a o Q o N a b h b r b p b p c a a c a a g a a d k"
 exact Zas (Zb6 hr.units) (Zab (pv 4)) Zag (Zat _)
 fail "~e"
 refine Zdr (i := 5) (cn := []) ?_ (Zd0 (x := "k") (cn := []) (ci := []) (by decide +kernel)) ?_ ?_ ?_ ?_ ?_ ?_
 fail "~a M a b w c a o Q o y r b p b p c a a"
 exact Zar Zh8 (Zab (pv 0)) Zag
 fail "~g a a d 6 g a f N a b j b r b w b"
 refine Zar Zbw (Zab (pv 3)) ?_
 exact Zar Zg6 (Zab (pv 3)) Zag
 fail "~b"
 exact Zar Zei Zag (Zab (pv 3))
 fail "~b 8"
 exact Zar Zg6 (Zab (pv 3)) Zag
 fail "~b s a b j b an c a a b i c a a a a a a c a a d"
 refine Zdr (i := 7) (cn := ["feed", "many"]) ?_ (Zd0 (x := "k") (cn := ["feed", "many"]) (ci := [0, 3]) (by decide +kernel)) ?_ ?_ ?_ ?_ ?_ ?_
 fail "~a M a b ai a b n b ac c a a c a o Q o"
 refine Zaw (Zi1 T) (hr.mono (by decide)) ?_ ?_
 fail "~a b h b n c a a g a a d k"
 refine PWf.pt ?_
 refine Zmn ?_ ?_
 refine Zas (Zhl hr.units) (Zab (pv 7)) ?_ (Zat _)
 fail "~G"
 refine Zjg ?_
 fail "~O s a b j b i c a a e H"
 refine Zf3 PySem.F.slot_list_append PySem.F.type_list_append Zcx (Zab (pv 7)) ?_
 fail "~b N a b j b"
 exact (Zab (pv 7))
 fail "~c a a c a e l v b K a b F c a b K a b"
 refine Zc7 (Zab (pv 7)) Zdz ?_
 exact Zdy (Zab (pv 2))
 fail "~c a c a a"
theorem Zh7 (T : Top K mg) : Fn P w K mg base 1 "_law_kept" ["row", "play"] Zer := by
 refine (fun h => h : _ → Fn P w K mg base 1 "_law_kept" ["row", "play"] (Za5 2 3 Zdk)) (Zbr (N := ["row", "play", "literal"]) (k := 0) T.t_law_kept Zhz (by fail "~U2") ?_)
 intro f cdv A outer s H E hr
 unfold Zdk
 fail "~d x a"
 exact Ze6 (Zab (pv 0))
 fail "~Y"
 exact Zhz.nd
 fail "~a f e k"
 refine PWf.pt ?_
 refine Zmn ?_ ?_
 refine Zas Yal ?_ ?_ (Zat _)
 fail "~W a b n c a m a b h c a"
 refine Zjg ?_
 fail "~R 4"
 refine Zar Zfb ?_ Zag
 fail "~W a b n c a"
 exact Zcd Zhv (Zab (pv 2)) Zag (Zat _)
 fail "~e E e E"
theorem Zlj (T : Top K mg) : Fn P w K mg base 1 "_law_plays" ["many"] Zfg := by
 refine (fun h => h : _ → Fn P w K mg base 1 "_law_plays" ["many"] (Za5 1 7 Zc6)) (Zbr (N := ["many", "found", "turn", "plays", "some", "longer", "play"]) (k := 0) T.t_law_plays Zgq (by fail "~U1") ?_)
 intro f cdv A outer s H E hr
 unfold Zc6
 have nd := Zgq.nd
 fail "~d"
 refine Zbb (i := 1) ?_ ?_ ?_ ?_
 fail "~g a f r b r b S c a c a d x a M a b j c a Y g a f d P g a f G d x a I 4 Z"
 refine Za9 (i := 6) ?_ ?_ ?_
 fail "~g a f e P g a f"
 refine Zar Zbw (Zab (pv 5)) ?_
 fail "~r b"
 refine Zar Zbw (Zab (pv 6)) ?_
 fail "~v b A c a b"
 refine Zar Zbw (Zab (pv 6)) ?_
 fail "~v b A c a c a a e H"
 refine Zf3 PySem.F.slot_list_append PySem.F.type_list_append Zcx (Zab (pv 1)) ?_
 fail "~b F c a d B g a f G d x a"
 refine Zld ?_ T.n_reversed ?_
 fail "~a b h c a"
 refine Za9 (i := 4) ?_ ?_ ?_
 fail "~g a f e B g a f"
 exact Zar Zbw (Zab (pv 3)) (Zab (pv 4))
 fail "~e"
 exact Zc3 (Zab (pv 3))
theorem Zig (T : Top K mg) : Fn P w K mg base 2 "_law_winners" ["claim"] Zdu := by
 refine (fun h => h : _ → Fn P w K mg base 2 "_law_winners" ["claim"] (Za5 1 5 Zb0)) (Zbr (N := ["claim", "found", "play", "side", "two"]) (k := 1) T.t_law_winners Ze0 (by fail "~U1") ?_)
 intro f cdv A outer s H E hr
 unfold Zb0
 have nd := Ze0.nd
 fail "~d"
 refine Zbb (i := 1) ?_ ?_ ?_ Zjy
 fail "~g a f d x a I"
 refine Zaw (Zlj T) (hr.mono (by decide)) ?_ ?_
 fail "~a b m a b t c a c a Y g a f e"
 refine Znv ?_ ?_ ?_
 fail "~R m a b n c a m a b t c a e 1 y r b p b p c a a V a b"
 refine Zcd (Zyx hr.units) Zlq ?_ ?_
 refine Zi0 (cn := ["play"]) ?_ (Zd0 (x := "row") (cn := ["play"]) (ci := [2]) (by decide +kernel)) ?_ ?_ ?_
 fail "~a I t o Q o"
 refine Zaw (Zh7 T) (hr.mono (by decide)) ?_ ?_
 fail "~a b j b h c a a"
 with_unfolding_all rfl
 fail "~c a"
 exact Zjp (Zab (pv 1)) (Zab (pv 2)) (Zzp hr.units)
 fail "~d B g a f y t m a b n c a d L g a f r b ag X v b A c a b ag X v b A c a c a a e 1"
 refine Zi3 ?_ (Zab (pv 3)) ?_
 refine Zas (Yah hr.units) (Zab (pv 3)) (Zab (pv 4)) ?_
 with_unfolding_all rfl
 exact Zct ixf (Zab (pv 4)) Zag (fun _ _ => rfl)
 exact Zjp (Zab (pv 1)) (Zab (pv 2)) (Zzp hr.units)
 fail "~e"
 exact Zc3 (Zab (pv 1))
theorem Zml (T : Top K mg) : Fn P w K mg base 2 "_law_left" ["claim", "play"] Zgb := by
 refine (fun h => h : _ → Fn P w K mg base 2 "_law_left" ["claim", "play"] (Za5 2 5 Zdj)) (Zbr (N := ["claim", "play", "rows", "row", "rest"]) (k := 1) T.t_law_left Zhn (by fail "~U2") ?_)
 intro f cdv A outer s H E hr
 unfold Zdj
 have nd := Zhn.nd
 fail "~d D g a f G d x a I t"
 refine Za9 (i := 3) ?_ ?_ ?_
 fail "~g a f e k J C"
 refine Zaw (Zh7 T) (hr.mono (by decide)) ?_ ?_
 fail "~a b w b h c a a d"
 refine Zdr (i := 4) (cn := ["play"]) ?_ (Zd0 (x := "literal") (cn := ["play"]) (ci := [1]) (by decide +kernel)) ?_ ?_ ?_ ?_ ?_ ?_
 fail "~a"
 exact Ze6 (Zab (pv 3))
 fail "~o T"
 refine Zas Zhv ?_ ?_ (Zat _)
 fail "~W a b j c a m a b h c a o j g a a e H"
 refine Zf3 PySem.F.slot_list_append PySem.F.type_list_append Zcx (Zab (pv 2)) ?_
 fail "~b K a b"
 refine Zi0 (cn := ["play"]) ?_ (Zd0 (x := "literal") (cn := ["play"]) (ci := [1]) (by decide +kernel)) ?_ ?_ ?_
 fail "~a"
 exact Ze6 (Zab (pv 4))
 fail "~o Q o"
 refine Zar Zfb (Zab (pv 0)) ?_
 refine Zar Zei ?_ ?_
 fail "~m a b h c a y r b i b Z c a a V a b"
 exact Zcd Zqz (Zab (pv 0)) Zag (Zat _)
 fail "~c a c a c a e l v b"
 refine Zc7 ?_ ?_ Zdz
 fail "~t"
 refine Zdy ?_
 fail "~m a b h c a b K a b n c a c a a"
theorem ok_law_told (T : Top K mg) : Fn P w K mg base 3 "_law_told" ["claim", "winners", "play"] Zcv := by
 refine (fun h => h : _ → Fn P w K mg base 3 "_law_told" ["claim", "winners", "play"] (Za5 3 5 Zdm)) (Zbr (N := ["claim", "winners", "play", "turn", "good"]) (k := 2) T.t_law_told Zhe (by fail "~U3") ?_)
 intro f cdv A outer s H E hr
 unfold Zdm
 have nd := Zhe.nd
 fail "~d"
 refine Zbb (i := 3) ?_ ?_ ?_ Zeq
 fail "~g a f d L g a f G d k"
 refine Zas Zqz ?_ ?_ (Zat _)
 fail "~m a b n c a m a b t c a d B g a f y t m a b n c a e"
 refine Zdr (i := 4) (cn := ["winners", "play", "turn"]) ?_ (Zd0 (x := "truth") (cn := ["winners", "play", "turn"]) (ci := [1, 2, 3]) (by decide +kernel)) ?_ ?_ ?_ ?_ ?_ ?_
 fail "~a I r b A b A c a a o T ah ag X v b j c a o j g a a e l r b n b w b"
 exact Zct (Zsl hr.units) (Zab (pv 1)) (Zab (pv 2)) (fun _ _ => rfl)
 fail "~b z b"
 refine Zaw (Zml T) (hr.mono (by decide)) ?_ ?_
 fail "~a b j b n c a a c a a a a a"
theorem Zmb (T : Top K mg) : Fn P w K mg base 3 "_law_deed" ["feed", "many", "play"] Zet := by
 refine (fun h => h : _ → Fn P w K mg base 3 "_law_deed" ["feed", "many", "play"] (Za5 3 6 Zdl)) (Zbr (N := ["feed", "many", "play", "word", "thing", "odd"]) (k := 2) T.t_law_deed Zib (by fail "~U3") ?_)
 intro f cdv A outer s H E hr
 unfold Zdl
 have nd := Zib.nd
 fail "~d B g a f N a b j b r b p b p b p b p b p b p b p c a a a a a a a c a a d L g a f"
 refine Zcd (Zb6 hr.units) ?_ Zag (Zat _)
 fail "~s a b j b i c a a d k"
 exact Zas (Zb6 hr.units) (Zab (pv 3)) Zcq (Zat _)
 fail "~d P g a f r b i b i b"
 exact Zeq
 fail "~b p b p b v b A c a b r b A c a b i b Z b p b S b p b r b A b A c a a b"
 exact Zar Zj5 Zag Zag
 fail "~c a a a a a a a a a a a a a a e l v b w b N a b j b F c a a b p b n c a a a a d k"
 exact Zas (Zb6 hr.units) (Zab (pv 3)) Zcq (Zat _)
 fail "~e l v b w b z b y r b p b p c a a V a b"
 refine Zcd (Zb6 hr.units) (Zab (pv 2)) ?_ (Zat _)
 fail "~S c a b"
 refine Zc7 (Zab (pv 2)) Zdz ?_
 refine Zdy ?_
 fail "~Z c a a a a d k"
 refine Zas (Zb6 hr.units) ?_ (Zab (pv 1)) (Zat _)
 fail "~m a b n c a e l v b w b z b p b n c a a a a e l v b w b z b p b X v b z c a c a a a a"
theorem Zi8 (T : Top K mg) : FnI P w K mg base 1 "Match" ["self", "claim"] Zd8 := by
 refine (fun h => h : _ → FnI P w K mg base 1 "Match" ["self", "claim"] (Za5 2 2 Zcm)) (fi_mk (N := ["self", "claim"]) (k := 0) T.t_Match_init Zi4 (by fail "~U2") ?_)
 intro f cdv A outer s H E hr
 unfold Zcm
 fail "~d"
 refine Zr0 T.l_Match ?_ (Zab (pv 0)) (Zab (pv 1))
 fail "~q e am q S"
theorem Zjl (T : Top K mg) : FnM P w K mg base 2 "Match" "pick" ["self", "truth"] Zcn := by
 refine (fun h => h : _ → FnM P w K mg base 2 "Match" "pick" ["self", "truth"] (Za5 2 2 Zba)) (Zm1 (N := ["self", "truth"]) (k := 1) T.t_Match_pick Zfp (by fail "~U2") ?_)
 intro f cdv A outer s H E hr
 unfold Zba
 fail "~d k J C ak a b h c a aa d k R m a b u q c a m a b 5 u q c a aa e am q ab u q v b h c a"
theorem Zep (T : Top K mg) : FnXM P w K mg base 2 "Match" "pick" ["self", "truth"] "NoPick" Zbg := by
 refine (fun h => h : _ → FnXM P w K mg base 2 "Match" "pick" ["self", "truth"] "NoPick" (Zsx 2 2 Zao)) (Zu4 (N := ["self", "truth"]) (k := 1) T.t_Match_pick Zfp (by fail "~U2") ?_)
 intro C hE f cdv A outer s H E hr
 unfold Zao
 refine px_or ?_ ?_
 refine Zqt ?_ ?_
 fail "~J C ak a b h c a ao"
 exact Zha Zcq Zgd
 refine Ztc ?_ ?_
 fail "~k J C ak a b h c a aa"
 refine Zqt ?_ ?_
 fail "~R m a b u q c a m a b 5 u q c a ao"
 exact Zha Zcq Zgd
theorem Zjm (T : Top K mg) : FnM P w K mg base 1 "Match" "back" ["self"] Zc9 := by
 refine (fun h => h : _ → FnM P w K mg base 1 "Match" "back" ["self"] (Za5 1 1 Zbm)) (Zm1 (N := ["self"]) (k := 0) T.t_Match_back Zfx (by fail "~U1") ?_)
 intro f cdv A outer s H E hr
 unfold Zbm
 fail "~d k O m a b u q c a aa e am q"
 refine Zc7 ?_ Zdz ?_
 fail "~u q"
 refine Zdy ?_
 fail "~Z"
theorem Zeg (T : Top K mg) : FnXM P w K mg base 1 "Match" "back" ["self"] "NoBack" Zbs := by
 refine (fun h => h : _ → FnXM P w K mg base 1 "Match" "back" ["self"] "NoBack" (Zsx 1 1 Zaz)) (Zu4 (N := ["self"]) (k := 0) T.t_Match_back Zfx (by fail "~U1") ?_)
 intro C hE f cdv A outer s H E hr
 unfold Zaz
 refine Zqt ?_ ?_
 fail "~O m a b u q c a ao"
 exact Zha Zcq Zgd
theorem Zmr (T : Top K mg) : Fn P w K mg base 3 "_law_done" ["match", "word", "thing"] Zes := by
 refine (fun h => h : _ → Fn P w K mg base 3 "_law_done" ["match", "word", "thing"] (Za5 3 9 Zdg)) (Zbr (N := ["match", "word", "thing", "caught", "told", "shown", "e", "others", "kinds"]) (k := 2) T.t_law_done Zhd (by fail "~U3") ?_)
 intro f cdv A outer s H E hr
 unfold Zdg
 have nd := Zhd.nd
 obtain ⟨c_NoPick, m_NoPick, j_NoPick⟩ := T.xi_NoPick
 obtain ⟨c_NoBack, m_NoBack, j_NoBack⟩ := T.xi_NoBack
 obtain ⟨u0_0, u0_1, u0_2, u0_3, u0_4, u0_5, J0, v0_0, v0_1, v0_2, v0_3, v0_4, v0_5⟩ := T.xt_0
 fail "~d"
 refine Zbb (i := 3) ?_ ?_ ?_ Zeq
 fail "~g a f d"
 refine Zbb (i := 4) ?_ ?_ ?_ Zeq
 fail "~g a f d P g a f 3 a b n c a d"
 refine Zs6 (iE := 6) (L := ["NoBack", "NoPick"]) ?_ ?_ ?_ ?_ ?_ ?_ ?_
 fail "~e L g a f"
 refine Zi3 ?_ ?_ ?_
 exact Zas (Zb6 hr.units) (Zab (pv 1)) Zcq (Zat _)
 exact Zde (Zjm T) (hr.mono (by decide)) (Zab (pv 0))
 refine Zsh (Zjl T) (hr.mono (by decide)) (Zab (pv 0)) ?_
 fail "~b n c a"
 refine Zw9 ?_
 refine Yae ?_ ?_ ?_
 exact Zas (Zb6 hr.units) (Zab (pv 1)) Zcq (Zat _)
 refine Zrp (k := 1) (ps := ["self"]) ?_ ?_ ?_ ?_ (Zab (pv 0))
 exact (Zeg T)
 exact Cat.exc T.x_ClaimError (by decide)
 fail "~q"
 exact hr.mono (by decide)
 refine Zt4 (k := 2) (ps := ["self", "truth"]) ?_ ?_ ?_ ?_ (Zab (pv 0)) ?_
 exact (Zep T)
 exact Cat.exc T.x_ClaimError (by decide)
 fail "~q"
 exact hr.mono (by decide)
 fail "~b n c a"
 exact T.x_ClaimError
 fail "~g a a"
 intro ex
 fail "~e"
 refine Zbb (i := 3) ?_ ?_ ?_ (Zab (pv 6))
 fail "~g a f d k"
 refine Zas (Zhl hr.units) ?_ (Zab (pv 5)) (Zat _)
 fail "~3 a b n c a e ae d k"
 exact Zas Znb (Zab (pv 3)) Zeq (Zat _)
 fail "~e l y r b p b p c a a V a b"
 exact Zcd Znb (Zab (pv 4)) Zeq (Zat _)
 fail "~c a d"
 refine Zbb (i := 7) ?_ ?_ ?_ ?_
 fail "~g a f"
 refine Zti (t := [("NoBack", false), ("NoPick", false)]) (cs := [u0_0, u0_1, u0_2, u0_3, u0_4, u0_5]) (L := ["NoBack", "NoPick"]) ?_ ?_ (Zab (pv 3)) ?_ ?_ ?_ ?_
 exact T.x_l
 fail "~a"
 exact (Zit (by rfl) v0_0 (Zit (by rfl) v0_1 (Zit (by rfl) v0_2 (Zit (by rfl) v0_3 (Zit (by rfl) v0_4 (Zit (by rfl) v0_5 Zw0))))))
 exact J0
 exact (by decide : 6 ≤ 1000)
 fail "~af d"
 refine Zbb (i := 8) ?_ ?_ ?_ ?_
 fail "~g a f r b"
 refine Zq3 (t := [("NoBack", true), ("NoPick", false)]) (c := c_NoBack) (L := ["NoBack", "NoPick"]) ?_ ?_ (Zab (pv 3)) ?_ ?_ ?_
 exact T.x_l
 fail "~a"
 exact m_NoBack
 exact j_NoBack
 fail "~af b"
 refine Zq3 (t := [("NoBack", false), ("NoPick", true)]) (c := c_NoPick) (L := ["NoBack", "NoPick"]) ?_ ?_ (Zab (pv 3)) ?_ ?_ ?_
 exact T.x_l
 fail "~a"
 exact m_NoPick
 exact j_NoPick
 fail "~af c a a d k"
 refine PWf.pt ?_
 refine Zup ?_ ?_
 exact Zfy (Zab (pv 7)) (fun _ => rfl)
 refine Zup ?_ ?_
 fail "~J C"
 refine Zub (t := [("NoBack", true), ("NoPick", true)]) (L := ["NoBack", "NoPick"]) ?_ ?_ (Zab (pv 3)) ?_ ?_ ?_
 exact T.x_l
 fail "~a"
 exact T.x_v
 fail "~af"
 exact T.n_ValueError
 refine Zwj ?_
 refine Zas (Zhl hr.units) ?_ Zag (Zat _)
 refine Zf3 PySem.F.slot_list_count PySem.F.type_list_count (Zoi hr.units) (Zab (pv 8)) ?_
 fail "~b A c a e ae e l y r b p b p c a a"
 refine Zf3 PySem.F.slot_list_index PySem.F.type_list_index (Zn7 hr.units) (Zab (pv 8)) ?_
 fail "~b A c a"
theorem Zj3 (T : Top K mg) : FnM P w K mg base 1 "Match" "play" ["self"] Zed := by
 refine (fun h => h : _ → FnM P w K mg base 1 "Match" "play" ["self"] (Za5 1 1 Zci)) (Zm1 (N := ["self"]) (k := 0) T.t_Match_play Zjo (by fail "~U1") ?_)
 intro f cdv A outer s H E hr
 unfold Zci
 fail "~e l u q"
theorem Zi9 (T : Top K mg) : FnM P w K mg base 1 "Match" "turn" ["self"] Zd7 := by
 refine (fun h => h : _ → FnM P w K mg base 1 "Match" "turn" ["self"] (Za5 1 1 Zck)) (Zm1 (N := ["self"]) (k := 0) T.t_Match_turn Zjj (by fail "~U1") ?_)
 intro f cdv A outer s H E hr
 unfold Zck
 fail "~d k R m a b u q c a m a b 5 u q c a e"
 exact Zc3 Zeq
 fail "~e l y 5 u q m a b u q c a"
theorem Zku (T : Top K mg) : FnM P w K mg base 14 "Match" "who" ["self"] Zfe := by
 refine (fun h => h : _ → FnM P w K mg base 14 "Match" "who" ["self"] (Za5 1 1 Zc0)) (Zm1 (N := ["self"]) (k := 13) T.t_Match_who Zlo (by fail "~U1") ?_)
 intro f cdv A outer s H E hr
 unfold Zc0
 fail "~e l"
 refine Zaw (Zlv T) (hr.mono (by decide)) ?_ ?_
 fail "~a b u q b u q c a a"
theorem Zj9 (T : Top K mg) : FnM P w K mg base 15 "Match" "good" ["self"] Zef := by
 refine (fun h => h : _ → FnM P w K mg base 15 "Match" "good" ["self"] (Za5 1 1 Zch)) (Zm1 (N := ["self"]) (k := 14) T.t_Match_good Zi7 (by fail "~U1") ?_)
 intro f cdv A outer s H E hr
 unfold Zch
 fail "~e l"
 refine Zaw (Zj1 T) (hr.mono (by decide)) ?_ ?_
 fail "~a b u q b u q c a a"
theorem Zja (T : Top K mg) : FnM P w K mg base 5 "Match" "left" ["self"] Zee := by
 refine (fun h => h : _ → FnM P w K mg base 5 "Match" "left" ["self"] (Za5 1 1 Zce)) (Zm1 (N := ["self"]) (k := 4) T.t_Match_left Zjn (by fail "~U1") ?_)
 intro f cdv A outer s H E hr
 unfold Zce
 fail "~e l"
 refine Zaw (Zsk (Zwh T) T.a_left_claims) (hr.mono (by decide)) ?_ ?_
 fail "~a b u q b u q c a a"
theorem Zkx (T : Top K mg) : Fn P w K mg base 16 "_law_asked" ["match", "which"] Ze7 := by
 refine (fun h => h : _ → Fn P w K mg base 16 "_law_asked" ["match", "which"] (Za5 2 2 Zc8)) (Zbr (N := ["match", "which"]) (k := 15) T.t_law_asked Zlm (by fail "~U2") ?_)
 intro f cdv A outer s H E hr
 unfold Zc8
 fail "~d k 2 e l"
 exact Zde (Zj3 T) (hr.mono (by decide)) (Zab (pv 0))
 fail "~d k 2 e l"
 exact Zde (Zi9 T) (hr.mono (by decide)) (Zab (pv 0))
 fail "~d k 2 e l"
 exact Zde (Zku T) (hr.mono (by decide)) (Zab (pv 0))
 fail "~d k 2 e l"
 exact Zde (Zj9 T) (hr.mono (by decide)) (Zab (pv 0))
 fail "~e l"
 exact Zde (Zja T) (hr.mono (by decide)) (Zab (pv 0))
theorem ok_law_right (T : Top K mg) : Fn P w K mg base 17 "_law_right" ["feed", "match", "due", "many", "held"] Zbq := by
 refine (fun h => h : _ → Fn P w K mg base 17 "_law_right" ["feed", "match", "due", "many", "held"] (Za5 5 10 Zc1)) (Zbr (N := ["feed", "match", "due", "many", "held", "first", "step", "turn", "which", "found"]) (k := 16) T.t_law_right Zgm (by fail "~U5") ?_)
 intro f cdv A outer s H E hr
 unfold Zc1
 have nd := Zgm.nd
 fail "~d P g a f s a b j b i c a a d 6 g a f 9 s a b j b i c a a d x a M a b w c a"
 refine Za9 (i := 7) ?_ ?_ ?_
 fail "~g a f d"
 refine Zbb (i := 8) ?_ ?_ ?_ ?_
 fail "~g a f 7"
 refine Zar Zbw (Zab (pv 5)) ?_
 exact Zar Zei (Zab (pv 6)) (Zab (pv 7))
 fail "~d"
 refine Zbb (i := 9) ?_ ?_ ?_ ?_
 fail "~g a f"
 refine Zaw (Zkx T) (hr.mono (by decide)) ?_ ?_
 fail "~a b h b"
 exact (Zab (pv 8))
 fail "~c a a d k"
 refine Zas (Zhl hr.units) ?_ ?_ (Zat _)
 fail "~3 a b ad c a 3 a b"
 exact Zct ixf (Zab (pv 2)) (Zab (pv 8)) (fun _ _ => rfl)
 fail "~c a e E e"
 refine Znv ?_ ?_ ?_
 refine PWf.pt ?_
 refine Zmn ?_ ?_
 exact Zas (Zb6 hr.units) (Zab (pv 8)) Zag (Zat _)
 refine Zjg ?_
 fail "~O s a b j b i c a a e H"
 refine Zf3 PySem.F.slot_list_append PySem.F.type_list_append Zcx (Zab (pv 4)) ?_
 fail "~b v b ad b"
 refine Zgg Zon ?_ T.n_list Zxe ?_
 fail "~a b ad c a c a a c a e k"
 exact Zas (Zb6 hr.units) (Zab (pv 8)) Zag (Zat _)
 fail "~e H"
 refine Zf3 PySem.F.slot_list_append PySem.F.type_list_append Zcx (Zab (pv 9)) ?_
 fail "~b"
 exact Zeq
 fail "~c a e E"
theorem Yaf (T : Top K mg) : Fn P w K mg base 18 "law" ["script"] Zn3 := by
 refine (fun h => h : _ → Fn P w K mg base 18 "law" ["script"] (Za5 1 12 Zqe)) (Zbr (N := ["script", "feed", "claim", "winners", "match", "play", "held", "k", "turn", "word", "thing", "due"]) (k := 17) T.t_law Zui (by fail "~U1") ?_)
 intro f cdv A outer s H E hr
 unfold Zqe
 have nd := Zui.nd
 fail "~d"
 refine Zbb (i := 1) ?_ ?_ ?_ ?_
 fail "~g a f"
 refine Zaw (Zhr T) (hr.mono (by decide)) ?_ ?_
 fail "~a b j b i c a a d D g a f"
 refine Zaw (Zll T) (hr.mono (by decide)) ?_ ?_
 fail "~a b h b y r b i b i b i b i b i b i c a a a a a a s a b h b i c a a b i c a a a d k O s a b h b i c a a e D g a f"
 refine Zaw (Zmh T) (hr.mono (by decide)) ?_ ?_
 fail "~a b h b n c a a d B g a f"
 refine Zaw (Zig T) (hr.mono (by decide)) ?_ ?_
 fail "~a b n c a d L g a f"
 refine Zst (Zi8 T) (hr.mono (by decide)) ?_ ?_
 fail "~a b n c a d P g a f S d 6 g a f G d k J C aj a b h b z b al a b n b w b F c a a a b s a b h b i c a a b ac c a a a a a e E d x a"
 refine Zn4 ?_ T.n_range ?_
 fail "~a b i b"
 refine Zc4 (Zrs (by rfl)) ?_ T.n_max Zy2 ?_
 fail "~a b i b ai a b i b m a b j c a c a a c a a c a a"
 refine Za9 (i := 7) ?_ ?_ ?_
 fail "~g a f d"
 refine Zbb (i := 1) ?_ ?_ ?_ ?_
 fail "~g a f"
 refine Zaw (Zhr T) (hr.mono (by decide)) ?_ ?_
 fail "~a b j b"
 exact (Zab (pv 7))
 fail "~c a a d x a M a b s a b h b i c a a c a"
 refine Za9 (i := 8) ?_ ?_ ?_
 fail "~g a f d 1"
 refine Zaw (Zmb T) (hr.mono (by decide)) ?_ ?_
 fail "~a b h b m a b"
 exact Zct ixf (Zab (pv 2)) Zag (fun _ _ => rfl)
 fail "~c a b F c a a a"
 refine Zmw ?_ ?_
 fail "~a 0"
 refine Za9 (i := 9) ?_ ?_ ?_
 fail "~g a f 0"
 refine Za9 (i := 10) ?_ ?_ ?_
 fail "~g a f 0"
 refine Za9 (i := 11) ?_ ?_ ?_
 fail "~g a f"
 refine Zf0 ?_ Zkc
 refine Za9 (i := 5) ?_ ?_ ?_
 fail "~g a f e k"
 refine Zas (Zhl hr.units) ?_ (Zab (pv 11)) (Zat _)
 refine Zaw (Zmr T) (hr.mono (by decide)) ?_ ?_
 fail "~a b z b ad b"
 exact (Zab (pv 10))
 fail "~c a a a e E e k J C aj a b h b z b al a b n b w b F c a a a b 9 s a b h b i c a a b ac c a a a a a e E d k J C aj a b h b z b al a b n b w b F c a a a b i b ac c a a a a a e E e l"
 refine Zcd (Zb6 hr.units) ?_ ?_ (Zat _)
 refine Zw7 (cn := []) ?_ (Zwk (x := "told") (y0 := "copy") (cn := []) (ci := []) (by decide +kernel)) ?_ ?_ ?_
 fail "~a"
 exact Ze6 (Zab (pv 6))
 fail "~o T"
 exact Zas (Zhl hr.units) (Zab (pv 0)) (Zab (pv 1)) (Zat _)
 fail "~o i G"
theorem Zy3 (T : Top K mg) : Fn P w K mg base 18 "law" ["script"] Zn3 := by
 exact Yaf T
end
theorem walk {l : PySem.W.OpenLaw} {q : Program} {loose : List Str} {XP : (Str -> Option Value) -> Heap -> Prop} {YP : World -> Heap -> Prop} {d : DefRec} {K : Params -> PySem.W.Frag} (hn : l.most = some 63) (hdf : d.params.defaults = [])
  (hd : d.name = "law") (hY : ∀ (w : World) (h : Heap), YP w h → (K w.params).In h) (hT : ∀ (w : World) (mg : Str → Option Value) (h : Heap), (K w.params).In h → h.Ns mainGlobals mg → Top (K w.params) mg)
  (pure : ∀ ns : List Int, ns.length ≤ 63 -> ∃ Hd', Zn3 [.fl (ns.map .int)] [] = some (.bl true, Hd')) : PySem.W.WalkO q loose XP YP l.row.toRowW d [] (fun f vs => PySem.call f vs) := by
 refine L2.walk_ofK (n := 63) (k := 18) (x := "script") (CX := CX0) (sp := Zyd Zn3) hn (by decide) hdf ⟨rfl, by decide, by decide, rfl⟩ hY (fun w mg fa h KX G hmg => ?_) (Zo1 pure) (fun _ _ _ _ z => z)
 have T := hT w mg h KX G
 obtain ⟨f, fd, F, hm⟩ := T.t_law
 have e0 : f = fa := by rw [hd] at hmg; rw [hm] at hmg; cases hmg; rfl
 subst e0
 have B := F.binds (ps := ["script"]) (fun _ _ _ _ _ _ us hl => by obtain ⟨_, rfl⟩ := us1 hl; rfl)
 refine ⟨fd, fun s u => ?_, fun base kb nb => ?_⟩
 ·obtain ⟨oc, od, kV, doc, pm, an, cdv, ct, osl, rfl, lk, hcd⟩ := F.ex
  exact .of_eq rfl
 ·obtain ⟨f', fd', G1, hb, hk, hm', oc', od', osl', lk'⟩ := (Zy3 (P := l.prog) (w := w) (base := base) T).ex
  have e1 : f' = f := by rw [hm] at hm'; cases hm'; rfl
  subst e1
  have e2 : fd' = fd := by
   obtain ⟨oc, od, kV, doc, pm, an, cdv, ct, osl, e3, lk, hcd⟩ := F.ex
   rw [lk] at lk'
   have e4 := Option.some.inj lk'
   injection e4 with _ _ e5 _
   injection e5 with e6
   exact e6.symm
  subst e2
  exact G1
end K08
open PySem PySem.W PyProof.Rows L2 DL
local macro_rules | `(tactic| fail $s:str) => do
 if s.getString.take 1 != "=" then Lean.Macro.throwUnsupported
 let i := Lean.mkIdent
 match (s.getString.drop 1).toString with
  | "T" => `(tactic| (show Tf (L2.KOf $(i `KX)) _ _ _; dsimp only [L2.KOf]; refine' tf_mk $(i `KX) $(i `G) ?a ?l ?c ?k; (case a => k_is); (case l => k_is); (case c => k_is); (case k => k_is)))
  | "M" => `(tactic| (show Tm (L2.KOf $(i `KX)) _ _ _ _; dsimp only [L2.KOf]; refine' tm_mk ?za ?zb ?zc ?zd ?ze ?zg ?zh ?zi ?zj ?zl; (case za => k_is); (case zb => k_is); (case zc => k_is); (case zd => k_is); (case ze => k_is); (case zg => k_is); (case zh => k_is); (case zi => k_is); (case zj => k_is); (case zl => k_is)))
  | "N" => `(tactic| (refine' PySem.W.mg_none_of $(i `KX) $(i `G) ?z; (case z => k_is)))
  | _ => Lean.Macro.throwUnsupported
set_option maxRecDepth 100000 in
set_option maxHeartbeats 0 in
theorem PySem.Challenge.cw_allsome_k67_a_match_holds : PySem.Challenge.rw_allsome_k67_a_match.Holds := by
 w_on; o_law; refine holds_open (q := (PySem.Challenge.vwOf PySem.Challenge.pw_allsome_k67_a_match)) (loose := [("left_claims" : Str)]) (Xt := PySem.Challenge.xt0) (XP := XL (PySem.Challenge.vwOf PySem.Challenge.pw_allsome_k67_a_match) []) (Yf := Hook.obs PySem.Challenge.hk0) (Ya := Hook.val PySem.Challenge.hk0) (YP := InK PySem.Challenge.mk0.heap_39) (N := 6906) PySem.Challenge.left0 (Hook.of PySem.Challenge.hk0) (Hook.keeps PySem.Challenge.hk0) (fun s e => xl_of s (Bool.and_eq_true_iff.mp e).1) XL.keeps (by rfl) (by rfl) (by rfl) (fun s e => recFacts_of (Bool.and_eq_true_iff.mp e).2) (by rfl) (by assumption) (by decide +kernel) ⟨rfl, rfl, rfl, rfl, rfl, by decide +kernel⟩ ?hw ?hc
 (case hw => w_witness2)
 k_fill
 refine K08.walk (l := PySem.Challenge.rw_allsome_k67_a_match) rfl rfl rfl (fun w h Y => Y) ?T K08.pure_law
 case T =>
  intro w mg h KX G
  have t_Match_init : Ti (L2.KOf KX) mg "Match" "Match.__init__" K08.s_Match_init := by
   dsimp only [L2.KOf]
   refine' ti_mk KX G ?za ?zb ?zc ?zd ?ze ?zi ?zj ?zl
   (case za => k_is); (case zb => k_is); (case zc => k_is); (case zd => k_is); (case ze => k_is); (case zi => k_is); (case zj => k_is); (case zl => k_is)
  have l_Match : Kl (L2.KOf KX) "Match" ["begun", "picked"] := by
   dsimp only [L2.KOf]
   refine' Zul (Zul (kl_mk ?za ?zb ?zc ?zd ?ze) ?zn0 ?zf0) ?zn1 ?zf1
   (case za => k_is); (case zb => k_is); (case zc => k_is); (case zd => k_is); (case ze => k_is); (case zn0 => k_is); (case zf0 => k_is); (case zn1 => k_is); (case zf1 => k_is)
  have a_left_claims : mg "left_claims" = mg "left" := by
   refine' al_mk KX G ?za ?zb
   (case za => k_is); (case zb => k_is)
  have c_TRUTHS : Gc (L2.KOf KX) mg "TRUTHS" K08.k_TRUTHS := by
   dsimp only [L2.KOf]
   refine' Zq7 KX G ?a ?l
   (case a => k_is); (case l => k_is)
  have x_ClaimError : Cat (L2.KOf KX) mg "ClaimError" ["NoBack", "NoPick"] := by
   dsimp only [L2.KOf]
   refine' ⟨_, Zm5 KX G ?za1 ?zf1 ?zp1 ?zq1 (Zm5 KX G ?za0 ?zf0 ?zp0 ?zq0 (Zxl KX G ?zb))⟩
   (case zb => k_is); (case za0 => k_is); (case zf0 => k_is); (case zp0 => kernel_rfl); (case zq0 => kernel_rfl); (case za1 => k_is); (case zf1 => k_is); (case zp1 => kernel_rfl); (case zq1 => kernel_rfl)
  have x_l : Zkh (L2.KOf KX) ["NoBack", "NoPick"] := by
   dsimp only [L2.KOf]
   refine' Zqy ?za1 ?zg1 ?zh1 ?zi1 ?zj1 ?zl1 ?zm1 ?zn1 ?zo1 (Zqy ?za0 ?zg0 ?zh0 ?zi0 ?zj0 ?zl0 ?zm0 ?zn0 ?zo0 (Zys))
   (case za0 => k_is); (case zg0 => k_is); (case zh0 => k_is); (case zi0 => k_is); (case zj0 => k_is); (case zl0 => k_is); (case zm0 => k_is); (case zn0 => k_is); (case zo0 => k_is); (case za1 => k_is); (case zg1 => k_is); (case zh1 => k_is); (case zi1 => k_is); (case zj1 => k_is); (case zl1 => k_is); (case zm1 => k_is); (case zn1 => k_is); (case zo1 => k_is)
  have xi_NoPick : ∃ c, mg "NoPick" = some (.ref c) ∧ Is1 (L2.KOf KX) (.ref c) [("NoBack", false), ("NoPick", true)] := by
   dsimp only [L2.KOf]
   refine' ⟨_, Zgk KX G ?zc, Zeu ?za1 ?zs1 (Zeu ?za0 ?zs0 (Zmt))⟩
   (case zc => k_is); (case za0 => k_is); (case za1 => k_is); (case zs0 => kernel_rfl); (case zs1 => kernel_rfl)
  have xi_NoBack : ∃ c, mg "NoBack" = some (.ref c) ∧ Is1 (L2.KOf KX) (.ref c) [("NoBack", true), ("NoPick", false)] := by
   dsimp only [L2.KOf]
   refine' ⟨_, Zgk KX G ?zc, Zeu ?za1 ?zs1 (Zeu ?za0 ?zs0 (Zmt))⟩
   (case zc => k_is); (case za0 => k_is); (case za1 => k_is); (case zs0 => kernel_rfl); (case zs1 => kernel_rfl)
  have x_v : Is1 (L2.KOf KX) (.type "ValueError") [("NoBack", true), ("NoPick", true)] := by
   dsimp only [L2.KOf]
   refine' Zeu ?za1 ?zs1 (Zeu ?za0 ?zs0 (Zmt))
   (case za0 => k_is); (case za1 => k_is); (case zs0 => kernel_rfl); (case zs1 => kernel_rfl)
  have xt_0 : ∃ c0 c1 c2 c3 c4 c5, IsN (L2.KOf KX) [c0, c1, c2, c3, c4, c5] [("NoBack", false), ("NoPick", false)] ∧ mg "NoLine" = some (.ref c0) ∧ mg "NoRow" = some (.ref c1) ∧ mg "NoStep" = some (.ref c2) ∧ mg "NoText" = some (.ref c3) ∧ mg "NotWon" = some (.ref c4) ∧ mg "TooMany" = some (.ref c5) := by
   dsimp only [L2.KOf]
   refine' ⟨_, _, _, _, _, _, Znx ?za1 ?zs1 (Znx ?za0 ?zs0 (Zxa)), Zgk KX G ?zc0, Zgk KX G ?zc1, Zgk KX G ?zc2, Zgk KX G ?zc3, Zgk KX G ?zc4, Zgk KX G ?zc5⟩
   (case zc0 => k_is); (case zc1 => k_is); (case zc2 => k_is); (case zc3 => k_is); (case zc4 => k_is); (case zc5 => k_is); (case za0 => k_is); (case za1 => k_is); (case zs0 => kernel_rfl); (case zs1 => kernel_rfl)
  exact ⟨by fail "=T", by fail "=T", by fail "=T", by fail "=T", by fail "=T", by fail "=T", by fail "=T", by fail "=T", by fail "=T", by fail "=T", by fail "=T", by fail "=T", by fail "=T", by fail "=T", by fail "=T", by fail "=T", by fail "=T", by fail "=T", by fail "=T", by fail "=T", by fail "=T", by fail "=T", by fail "=T", by fail "=T", by fail "=T", by fail "=T", t_Match_init, by fail "=M", by fail "=M", by fail "=T", by fail "=M", by fail "=M", by fail "=M", by fail "=M", by fail "=M", by fail "=T", by fail "=T", by fail "=T", l_Match, a_left_claims, by fail "=N", by fail "=N", by fail "=N", by fail "=N", by fail "=N", by fail "=N", by fail "=N", by fail "=N", by fail "=N", by fail "=N", by fail "=N", by fail "=N", by fail "=N", by fail "=N", c_TRUTHS, x_ClaimError, x_l, xi_NoPick, xi_NoBack, x_v, xt_0⟩
