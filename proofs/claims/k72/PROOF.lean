import PyProof.Rows.All
import Wide.All
import Wide.FinOn
import Lean
import PyProof.EqAt
import PyProof.EqKinds
import PyProof.TupleCall
import KE.KDictList
import KE.KDictOf
import KE.KIntText
import KE.KItemsList
import KE.KSortKey
import KE.KSortTup
import KE.KTryMore
import PyProof.AttrMissHeap
import PyProof.AutoSeq1
import PyProof.ExcAttrAll.ValueError
import PyProof.FitsBits
import PyProof.MeetsStr2
import PyProof.MinMaxWalk
import PyProof.P3Eq
import PyProof.P3In
import PyProof.ReprLen
import PyProof.Rows.DictRows
import PyProof.Rows.Own
import PyProof.Rows.RuleB_bool
import PyProof.Rows.TupIter
import PyProof.SeqI3
import PyProof.StrBlockG
import PyProof.StrOps2
import PyProof.StrWalks
import PyProof.SumWalkG
import PyProof.TupleOfSeq
import PyProof.WalkInts
import KE.KRevSl
import KE.KSortAsk
import PySem.Challenge.RW_allsome_k72_rows_put_and_out
set_option Elab.async false
set_option compiler.extract_closed false
set_option bootstrap.genMatcherCode false
set_option linter.all false
set_option maxRecDepth 100000
theorem Zo {α β : Type} {x : Option α} {f : α → Option β} {b : β} (h : x.bind f = some b) : ∃ a, x = some a ∧ f a = some b := Option.bind_eq_some_iff.1 h
theorem Zm {α β : Type} {x : Option α} {f : α → β} {b : β} (h : x.map f = some b) : ∃ a, x = some a ∧ f a = b := Option.map_eq_some_iff.1 h
theorem Zb {α β : Type} (a : α) (f : α → Option β) : (some a).bind f = f a := rfl
namespace PySem.W
open PySem
/-! the top run on a tree -/
def treeOf : List Obj → Nat → BT → Option BT
  | [], _, t => some t
  | o :: r, i, t => match ((t.ins i o).get i).isSome with
    | true => treeOf r (i + 1) (t.ins i o)
    | false => none
theorem treeOf_abs {life} : ∀ (l : List Obj) (i : Nat) (t T : BT), treeOf l i t = some T → absHeap T (i + l.length) life = ⟨(absHeap t i life).objs ++ l.toArray, life⟩
  | [], i, t, T, h => by cases h; simp [absHeap]
  | o :: r, i, t, T, h => by
    unfold treeOf at h
    cases e : ((t.ins i o).get i).isSome with
    | false => rw [e] at h; cases h
    | true =>
      rw [e] at h
      have a := treeOf_abs (life := life) r (i + 1) (t.ins i o) T h
      rw [absHeap_ins e] at a
      rw [List.length_cons, show i + (r.length + 1) = i + 1 + r.length by omega, a]
      simp [Heap.push]
def topRunT (tb : String → Option Builtin) (p : Program) (w : World) (n₀ : Nat) (ann : Option Value) : Nat → SharedT → Thread → Option SharedT
  | 0, _, _ => none
  | n + 1, s, t => match through t with
    | true => some s
    | false => match stepOk n₀ ann t with
      | false => none
      | true => match stepT (denote tb) p w s t with
        | some (s', t') => topRunT tb p w n₀ ann n s' t'
        | none => none
theorem topRun_of {tb : String → Option Builtin} {p : Program} {w : World} {n₀ : Nat} {ann : Option Value} : ∀ {n : Nat} {s s' : SharedT} {t : Thread}, topRunT tb p w n₀ ann n s t = some s' → topRun tb p w n₀ ann n s.abs t = some s'.abs
  | 0, _, _, _, h => by cases h
  | n + 1, s, s', t, h => by
    unfold topRunT at h
    unfold topRun
    cases he : through t with
    | true => rw [he] at h; cases h; rfl
    | false =>
      rw [he] at h
      cases hk : stepOk n₀ ann t with
      | false => rw [hk] at h; cases h
      | true =>
        rw [hk] at h
        cases hs : stepT (denote tb) p w s t with
        | none => rw [hs] at h; cases h
        | some r => obtain ⟨s₂, t₂⟩ := r; rw [hs] at h; rw [stepT_spec hs]; exact topRun_of h
def topT (tb : String → Option Builtin) (p : Program) (w : World) (N : Nat) (s₀ : Shared) : Option Shared :=
  match s₀.heap.isNs mainGlobals && s₀.gens.size == 0 with
  | true => (treeOf s₀.heap.objs.toList 0 .nil).bind fun T => (topRunT tb p w s₀.heap.objs.size (s₀.heap.nsMap mainGlobals "__annotations__") N ⟨T, s₀.heap.objs.size, s₀.heap.life, s₀.gens, s₀.drawn, s₀.toks, s₀.os⟩ (topStub p)).bind fun s₁ =>
    match staticsOk (importedModules p.main.body) s₀.heap s₁.abs.heap && namesBound p s₁.abs.heap && gensDone s₁.abs && laidKept s₀.heap s₁.abs.heap with
    | true => some s₁.abs
    | false => none
  | false => none
theorem topT_of {tb : String → Option Builtin} {p : Program} {w : World} {N : Nat} {s₀ r : Shared} (h : topT tb p w N s₀ = some r) : topFrom tb p w N s₀ = some r := by
  unfold topT at h
  unfold topFrom
  cases e : (s₀.heap.isNs mainGlobals && s₀.gens.size == 0) with
  | false => rw [e] at h; cases h
  | true =>
    rw [e] at h
    obtain ⟨T, h1, h⟩ := Option.bind_eq_some_iff.mp h
    obtain ⟨s₁, h2, h⟩ := Option.bind_eq_some_iff.mp h
    have a := treeOf_abs (life := s₀.heap.life) _ _ _ _ h1
    have b := topRun_of h2
    have c : (SharedT.mk T s₀.heap.objs.size s₀.heap.life s₀.gens s₀.drawn s₀.toks s₀.os).abs = s₀ := by
      unfold SharedT.abs
      have z : absHeap T s₀.heap.objs.size s₀.heap.life = s₀.heap := by
        have a' := a
        rw [Nat.zero_add] at a'
        rw [show s₀.heap.objs.size = s₀.heap.objs.toList.length by simp, a']
        obtain ⟨⟨objs, life⟩, g, d, t, o⟩ := s₀
        simp [absHeap, BT.list]
      show Shared.mk (absHeap T s₀.heap.objs.size s₀.heap.life) s₀.gens s₀.drawn s₀.toks s₀.os = s₀
      rw [z]
    rw [c] at b
    rw [b]
    exact h
end PySem.W
section
open PySem PySem.W PyProof.Rows
noncomputable def PySem.Challenge.vwOf (p : Program) : Program := { p with main := { p.main with body := [1, 2, 3, 4, 5, 6, 8, 9, 10, 11, 12, 13, 14, 15, 16, 18, 19, 20, 21, 22, 23, 24, 26, 27, 28, 29, 30, 31, 33, 34, 35, 36, 37, 38, 39, 40, 41, 43, 45, 46, 47, 49, 51, 52, 53, 54, 55, 56, 57, 58, 59, 60, 61, 62, 63, 64, 65, 66, 67].filterMap fun i => p.main.body[i]? } }
local macro_rules | `(tactic| o_head $_) => `(tactic| exact False.elim (by assumption))
set_option maxRecDepth 100000 in
set_option maxHeartbeats 0 in
theorem PySem.Challenge.mk0 : False -> PySem.Challenge.rw_allsome_k72_rows_put_and_out.Holds := by
 intro f; w_on; o_law; k_head
noncomputable def PySem.Challenge.hk0 : Hook := kHook PySem.Challenge.mk0.heap_39 [2, 3, 15, 16, 18, 19, 21, 22, 23, 25, 26, 28, 29, 30, 32, 33, 35, 36, 37, 39, 40, 42, 43, 44, 51, 52, 53, 54, 57, 64, 66, 67, 69, 70, 71, 72, 73, 76, 83, 85, 86, 88, 89, 90, 91, 92, 95, 102, 103, 104, 107, 114, 115, 116, 119, 126, 127, 128, 131, 138, 139, 140, 143, 150, 151, 152, 155, 162, 163, 164, 167, 169, 170, 172, 173, 174, 176, 177, 179, 180, 181, 183, 184, 186, 187, 188, 190, 191, 193, 194, 195, 197, 198, 200, 201, 202, 204, 205, 207, 208, 209, 212, 213, 214, 216, 217, 219, 220, 221, 223, 224, 226, 227, 228, 230, 231, 233, 234, 235, 237, 238, 240, 241, 242, 244, 245, 247, 248, 249, 251, 252, 254, 255, 256, 259, 260, 261, 263, 264, 266, 267, 268, 270, 271, 273, 274, 275, 277, 278, 280, 281, 282, 284, 285, 287, 288, 289, 291, 292, 294, 295, 296, 299, 300, 301, 303, 304, 306, 307, 308, 311, 312, 313, 316, 317, 318, 320, 321, 323, 324, 332, 334, 335, 337, 338, 339, 341, 342, 344, 345, 346, 348, 349, 351, 352, 353, 355, 356, 358, 359, 360, 362, 363, 365, 366, 367, 369, 370, 372, 373, 374, 376, 377, 379, 380, 381, 383, 384, 386, 387, 388, 389, 390, 391, 392, 395, 397, 398, 400, 401, 402, 404, 405, 407, 408, 409, 411, 412, 414, 415, 416, 418, 419, 421, 422, 423, 425, 426, 428, 429, 430, 432, 433, 435, 436, 437, 439, 440, 442, 443, 444, 446, 447, 449, 450, 451, 453, 454, 456, 457, 458, 460, 461, 463, 464, 465, 467, 468, 470, 471, 472, 474, 475, 477, 478, 479, 481, 482, 484, 485, 486, 489, 490, 491, 494, 495, 496, 498, 499, 501, 502, 503, 505, 506, 508, 509] (fun _ => by kernel_rfl)
noncomputable def PySem.Challenge.xt0 (s : Shared) : Bool := xlAt (PySem.Challenge.vwOf PySem.Challenge.pw_allsome_k72_rows_put_and_out) [] s && recOk (RowW.records (OpenRow.toRowW (OpenLaw.row PySem.Challenge.rw_allsome_k72_rows_put_and_out))) s
set_option maxRecDepth 100000 in
theorem PySem.Challenge.left123 (w : World) (os : OsState) : (topT treeTable (OpenLaw.row PySem.Challenge.rw_allsome_k72_rows_put_and_out).prog w 7994 ⟨boot_heap w.params, Array.mk [], boot_drawn, boot_toks, os⟩).map (fun s => ((openSeen (PySem.Challenge.vwOf PySem.Challenge.pw_allsome_k72_rows_put_and_out) [("winner_games" : Str), ("plan_plans" : Str)] (importedModules (OpenLaw.row PySem.Challenge.rw_allsome_k72_rows_put_and_out).prog.main.body) PySem.Challenge.xt0 true s).1, (openSeen (PySem.Challenge.vwOf PySem.Challenge.pw_allsome_k72_rows_put_and_out) [("winner_games" : Str), ("plan_plans" : Str)] (importedModules (OpenLaw.row PySem.Challenge.rw_allsome_k72_rows_put_and_out).prog.main.body) PySem.Challenge.xt0 true s).2.1, (openSeen (PySem.Challenge.vwOf PySem.Challenge.pw_allsome_k72_rows_put_and_out) [("winner_games" : Str), ("plan_plans" : Str)] (importedModules (OpenLaw.row PySem.Challenge.rw_allsome_k72_rows_put_and_out).prog.main.body) PySem.Challenge.xt0 true s).2.2.1)) = some (((openGood (PySem.Challenge.vwOf PySem.Challenge.pw_allsome_k72_rows_put_and_out) [("winner_games" : Str), ("plan_plans" : Str)]).1, (openGood (PySem.Challenge.vwOf PySem.Challenge.pw_allsome_k72_rows_put_and_out) [("winner_games" : Str), ("plan_plans" : Str)]).2.1, (openGood (PySem.Challenge.vwOf PySem.Challenge.pw_allsome_k72_rows_put_and_out) [("winner_games" : Str), ("plan_plans" : Str)]).2.2.1)) := by
 unfold PySem.Challenge.xt0
 try rewrite [PySem.W.Fast.te4187177175401517315]
 try rewrite [PySem.W.Fast.te5923862056798008813]
 try rewrite [PySem.W.Fast.te2368527892694137696]
 try rewrite [PySem.W.Fast.te7621301978769934285]
 try rewrite [PySem.W.Fast.te16550337467793797109]
 try rewrite [PySem.W.Fast.te14364793385576792824]
 kernel_rfl
set_option maxRecDepth 100000 in
theorem PySem.Challenge.left456789 (w : World) (os : OsState) : (topT treeTable (OpenLaw.row PySem.Challenge.rw_allsome_k72_rows_put_and_out).prog w 7994 ⟨boot_heap w.params, Array.mk [], boot_drawn, boot_toks, os⟩).map (fun s => ((openSeen (PySem.Challenge.vwOf PySem.Challenge.pw_allsome_k72_rows_put_and_out) [("winner_games" : Str), ("plan_plans" : Str)] (importedModules (OpenLaw.row PySem.Challenge.rw_allsome_k72_rows_put_and_out).prog.main.body) PySem.Challenge.xt0 true s).2.2.2.1, (openSeen (PySem.Challenge.vwOf PySem.Challenge.pw_allsome_k72_rows_put_and_out) [("winner_games" : Str), ("plan_plans" : Str)] (importedModules (OpenLaw.row PySem.Challenge.rw_allsome_k72_rows_put_and_out).prog.main.body) PySem.Challenge.xt0 true s).2.2.2.2.1, (openSeen (PySem.Challenge.vwOf PySem.Challenge.pw_allsome_k72_rows_put_and_out) [("winner_games" : Str), ("plan_plans" : Str)] (importedModules (OpenLaw.row PySem.Challenge.rw_allsome_k72_rows_put_and_out).prog.main.body) PySem.Challenge.xt0 true s).2.2.2.2.2.1, (openSeen (PySem.Challenge.vwOf PySem.Challenge.pw_allsome_k72_rows_put_and_out) [("winner_games" : Str), ("plan_plans" : Str)] (importedModules (OpenLaw.row PySem.Challenge.rw_allsome_k72_rows_put_and_out).prog.main.body) PySem.Challenge.xt0 true s).2.2.2.2.2.2.1, (openSeen (PySem.Challenge.vwOf PySem.Challenge.pw_allsome_k72_rows_put_and_out) [("winner_games" : Str), ("plan_plans" : Str)] (importedModules (OpenLaw.row PySem.Challenge.rw_allsome_k72_rows_put_and_out).prog.main.body) PySem.Challenge.xt0 true s).2.2.2.2.2.2.2.1, (openSeen (PySem.Challenge.vwOf PySem.Challenge.pw_allsome_k72_rows_put_and_out) [("winner_games" : Str), ("plan_plans" : Str)] (importedModules (OpenLaw.row PySem.Challenge.rw_allsome_k72_rows_put_and_out).prog.main.body) PySem.Challenge.xt0 true s).2.2.2.2.2.2.2.2)) = some (((openGood (PySem.Challenge.vwOf PySem.Challenge.pw_allsome_k72_rows_put_and_out) [("winner_games" : Str), ("plan_plans" : Str)]).2.2.2.1, (openGood (PySem.Challenge.vwOf PySem.Challenge.pw_allsome_k72_rows_put_and_out) [("winner_games" : Str), ("plan_plans" : Str)]).2.2.2.2.1, (openGood (PySem.Challenge.vwOf PySem.Challenge.pw_allsome_k72_rows_put_and_out) [("winner_games" : Str), ("plan_plans" : Str)]).2.2.2.2.2.1, (openGood (PySem.Challenge.vwOf PySem.Challenge.pw_allsome_k72_rows_put_and_out) [("winner_games" : Str), ("plan_plans" : Str)]).2.2.2.2.2.2.1, (openGood (PySem.Challenge.vwOf PySem.Challenge.pw_allsome_k72_rows_put_and_out) [("winner_games" : Str), ("plan_plans" : Str)]).2.2.2.2.2.2.2.1, (openGood (PySem.Challenge.vwOf PySem.Challenge.pw_allsome_k72_rows_put_and_out) [("winner_games" : Str), ("plan_plans" : Str)]).2.2.2.2.2.2.2.2)) := by
 unfold PySem.Challenge.xt0
 try rewrite [PySem.W.Fast.te4187177175401517315]
 try rewrite [PySem.W.Fast.te5923862056798008813]
 try rewrite [PySem.W.Fast.te2368527892694137696]
 try rewrite [PySem.W.Fast.te7621301978769934285]
 try rewrite [PySem.W.Fast.te16550337467793797109]
 try rewrite [PySem.W.Fast.te14364793385576792824]
 kernel_rfl
set_option maxRecDepth 100000 in
theorem PySem.Challenge.leftc (w : World) (os : OsState) : (topT treeTable (OpenLaw.row PySem.Challenge.rw_allsome_k72_rows_put_and_out).prog w 7994 ⟨boot_heap w.params, Array.mk [], boot_drawn, boot_toks, os⟩).map (fun s => PySem.Challenge.hk0.obs s) = some (PySem.Challenge.hk0.val w) := by
 try rewrite [PySem.W.Fast.te4187177175401517315]
 try rewrite [PySem.W.Fast.te5923862056798008813]
 try rewrite [PySem.W.Fast.te2368527892694137696]
 try rewrite [PySem.W.Fast.te7621301978769934285]
 try rewrite [PySem.W.Fast.te16550337467793797109]
 try rewrite [PySem.W.Fast.te14364793385576792824]
 kernel_rfl
theorem PySem.Challenge.left0 : LeftO (OpenLaw.row PySem.Challenge.rw_allsome_k72_rows_put_and_out).prog (PySem.Challenge.vwOf PySem.Challenge.pw_allsome_k72_rows_put_and_out) [("winner_games" : Str), ("plan_plans" : Str)] PySem.Challenge.xt0 PySem.Challenge.hk0.obs PySem.Challenge.hk0.val 7994 := fun w => by
 obtain ⟨⟨h, g, d, t, os⟩, hs, hv⟩ := Option.map_eq_some_iff.mp (boot_open (p := (OpenLaw.row PySem.Challenge.rw_allsome_k72_rows_put_and_out).prog) (N := 7994) (by kernel_rfl) (by kernel_rfl) (fun s => by kernel_rfl) w)
 obtain ⟨e1, hv⟩ := Prod.mk.inj (show (h, g, d, t) = _ from hv)
 obtain ⟨e2, hv⟩ := Prod.mk.inj hv
 obtain ⟨e3, e4⟩ := Prod.mk.inj hv
 subst e1; subst e2; subst e3; subst e4
 obtain ⟨r, h1, hc⟩ := Option.map_eq_some_iff.mp (PySem.Challenge.leftc w os)
 have h123 := PySem.Challenge.left123 w os
 rw [h1, Option.map_some] at h123
 replace h123 := Option.some.inj h123
 have h456789 := PySem.Challenge.left456789 w os
 rw [h1, Option.map_some] at h456789
 replace h456789 := Option.some.inj h456789
 unfold openEnds
 rw [hs, Option.bind_some, topT_of h1]
 exact congrArg some (Prod.ext (Prod.ext (congrArg (fun z => z.1) h123) (Prod.ext (congrArg (fun z => z.2.1) h123) (Prod.ext (congrArg (fun z => z.2.2) h123) (Prod.ext (congrArg (fun z => z.1) h456789) (Prod.ext (congrArg (fun z => z.2.1) h456789) (Prod.ext (congrArg (fun z => z.2.2.1) h456789) (Prod.ext (congrArg (fun z => z.2.2.2.1) h456789) (Prod.ext (congrArg (fun z => z.2.2.2.2.1) h456789) (congrArg (fun z => z.2.2.2.2.2) h456789))))))))) hc)
end
namespace L2
open PySem PySem.Spec PyProof.Rows
noncomputable abbrev Key := Sum Int Str
noncomputable def Zyf : Key -> Value -> Bool
 | .inl k, v => Value.isInt k v
 | .inr x, v => Value.isStrOf x v
noncomputable def keyH (w : World) : Key -> Int
 | .inl k => hashInt k
 | .inr x => hashStr w x
theorem Zbk : ∀ {k : Key} {v : Value}, Zyf k v = true -> (∃ i t, k = Sum.inl i ∧ v = Value.int i t) ∨ (∃ x t, k = Sum.inr x ∧ v = Value.str x t)
 | .inl i, v, h => by
  obtain ⟨t, e⟩ := Value.isInt_shape (k := i) (v := v) h
  exact .inl ⟨i, t, rfl, e⟩
 | .inr x, v, h => by
  obtain ⟨t, e⟩ := Value.isStrOf_shape (x := x) (v := v) h
  exact .inr ⟨x, t, rfl, e⟩
theorem Zyw (a b : Int) : decide ((Sum.inl a : Key) = Sum.inl b) = (a == b) := by
 by_cases e : a = b
 ·subst e; simp
 ·have h : ¬ (Sum.inl a : Key) = Sum.inl b := fun q => e (Sum.inl.inj q)
  rw [decide_eq_false h]
  exact (beq_eq_false_iff_ne.mpr e).symm
theorem Zym (a b : Str) : decide ((Sum.inr a : Key) = Sum.inr b) = decide (a = b) := by
 by_cases e : a = b
 ·subst e; simp
 ·have h : ¬ (Sum.inr a : Key) = Sum.inr b := fun q => e (Sum.inr.inj q)
  rw [decide_eq_false h, decide_eq_false e]
theorem Zzw (a : Int) (b : Str) : decide ((Sum.inl a : Key) = Sum.inr b) = false := decide_eq_false (fun q => nomatch q)
theorem Zzj (a : Str) (b : Int) : decide ((Sum.inr a : Key) = Sum.inl b) = false := decide_eq_false (fun q => nomatch q)
noncomputable def Zmm (prog : Program) (w : World) : PySem.KeyKind prog w Key where
 is := Zyf
 hash := keyH w
 inj := fun v a b ha hb => by
  rcases Zbk ha with ⟨i, t, rfl, rfl⟩ | ⟨x, t, rfl, rfl⟩
  ·rcases Zbk hb with ⟨j, u, rfl, e⟩ | ⟨y, u, rfl, e⟩
   ·injection e with e1 _; rw [e1]
   ·exact nomatch e
  ·rcases Zbk hb with ⟨j, u, rfl, e⟩ | ⟨y, u, rfl, e⟩
   ·exact nomatch e
   ·injection e with e1 _; rw [e1]
 byValue := fun k v h => by
  rcases Zbk h with ⟨i, t, rfl, rfl⟩ | ⟨x, t, rfl, rfl⟩ <;> rfl
 pyHash := fun hv h => by
  rcases Zbk hv with ⟨i, t, rfl, rfl⟩ | ⟨x, t, rfl, rfl⟩
  ·exact wpAny_pyHash_int h
  ·exact wpAny_pyHash_str h
 eqBool := fun hu hv h => by
  rcases Zbk hu with ⟨i, t, rfl, rfl⟩ | ⟨x, t, rfl, rfl⟩
  ·rcases Zbk hv with ⟨j, u, rfl, rfl⟩ | ⟨y, u, rfl, rfl⟩
   ·rw [Zyw] at h; exact wpAny_eqBool_int h
   ·rw [Zzw] at h; exact SeqAt.EqAt.int_str i t y u _ _ _ _ h
  ·rcases Zbk hv with ⟨j, u, rfl, rfl⟩ | ⟨y, u, rfl, rfl⟩
   ·rw [Zzj] at h; exact SeqAt.EqAt.str_int x t j u _ _ _ _ h
   ·rw [Zym] at h; exact wpAny_eqBool_str h
 «strs» := fun k x t v h => by
  rcases Zbk h with ⟨i, u, rfl, e⟩ | ⟨y, u, rfl, e⟩
  ·exact nomatch e
  ·injection e with e1 _
   subst e1
   cases v <;> rfl
inductive V where
 | non | bl (b : Bool) | int (i : Int) | str (x : Str) | byt (b : Array UInt8) | flt (b : UInt64) | ref (a : Addr) | ty (n : String)
noncomputable def Zcn : V -> Value -> Prop
 | .non, u => u = Value.none
 | .bl b, u => u = Value.bool b
 | .int i, u => ∃ t, u = Value.int i t
 | .str x, u => ∃ t, u = Value.str x t
 | .byt b, u => ∃ t, u = Value.bytes b t
 | .flt b, u => ∃ t, u = Value.float b t
 | .ref a, u => u = Value.ref a
 | .ty n, u => u = Value.type n
noncomputable abbrev Za8 : List V -> List Value -> Prop := Paired Zcn
theorem Za8.length {xs : List V} {us : List Value} (r : Za8 xs us) : xs.length = us.length := Paired.length r
theorem Za8.get : ∀ {xs : List V} {us : List Value} {i : Nat} {x : V}, Za8 xs us -> xs[i]? = some x -> ∃ u, us[i]? = some u ∧ Zcn x u
 | _, _, _, _, .nil, e => by simp at e
 | _, _, 0, _, .cons r _, e => by simp at e; subst e; exact ⟨_, rfl, r⟩
 | _, _, i + 1, x, .cons _ t, e => by
  obtain ⟨u, h1, h2⟩ := Za8.get (i := i) (x := x) t (by simpa using e)
  exact ⟨u, by simpa using h1, h2⟩
theorem Za8.set {x : V} {u : Value} (r : Zcn x u) : ∀ {xs : List V} {us : List Value} (i : Nat), Za8 xs us -> Za8 (xs.set i x) (us.set i u)
 | _, _, _, .nil => .nil
 | _, _, 0, .cons _ t => .cons r t
 | _, _, i + 1, .cons q t => .cons q (Za8.set r i t)
theorem Za8.append : ∀ {xs ys : List V} {us ws : List Value}, Za8 xs us -> Za8 ys ws -> Za8 (xs ++ ys) (us ++ ws)
 | _, _, _, _, .nil, s => s
 | _, _, _, _, .cons r t, s => .cons r (Za8.append t s)
theorem Za8.take : ∀ {xs : List V} {us : List Value} (n : Nat), Za8 xs us -> Za8 (xs.take n) (us.take n)
 | _, _, 0, _ => .nil
 | _, _, _ + 1, .nil => .nil
 | _, _, n + 1, .cons r t => .cons r (Za8.take n t)
theorem Za8.drop : ∀ {xs : List V} {us : List Value} (n : Nat), Za8 xs us -> Za8 (xs.drop n) (us.drop n)
 | _, _, 0, r => r
 | _, _, _ + 1, .nil => .nil
 | _, _, n + 1, .cons _ t => Za8.drop n t
noncomputable def Zsk : Option V -> Option Value -> Prop
 | some v, some u => Zcn v u
 | none, none => True
 | _, _ => False
noncomputable def KV {κ : Type} : List (κ × V) -> List (κ × Value) -> Prop := Paired fun (p : κ × V) (q : κ × Value) => p.1 = q.1 ∧ Zcn p.2 q.2
noncomputable def kV : Key -> V
 | .inl i => .int i
 | .inr x => .str x
inductive HO where
 | lst (xs : List V)
 | tup (xs : List V)
 | dK (kvs : List (Key × V)) | dT (kvs : List (List Key × V))
 | set (S : Int -> Bool) (n : Nat)
 | ins (C dx : Addr) (fs : List (Str × V))
 | own (x : Addr)
 | xd (fs : List (Str × V))
 | met (f x : Addr)
 | rng (lo hi : Int)
 | frz (o : Obj) (u : HO)
 | tbl (ps : Array Value)
 | ext (φ : Heap -> Prop)
noncomputable abbrev Hp := Addr -> Option HO
noncomputable def upd (H : Hp) (a : Addr) (o : HO) : Hp := fun b => if b = a then some o else H b
theorem Zaq {H : Hp} {a : Addr} {o : HO} : upd H a o a = some o := by unfold upd; rw [if_pos rfl]
theorem Zaj {H : Hp} {a b : Addr} {o : HO} (h : b ≠ a) : upd H a o b = H b := by unfold upd; rw [if_neg h]
theorem Zlj {H : Hp} {a b : Addr} {o u : HO} (h : H a = some o) (h' : H b = some u) (d : o ≠ u) : a ≠ b := by
 intro e; subst e; rw [h] at h'; exact d (Option.some.inj h')
theorem Zal {H : Hp} {a b : Addr} {o : HO} (h : H a = some o) (h' : H b = none) : a ≠ b := by
 intro e; subst e; rw [h] at h'; cases h'
noncomputable def Zil (h : Heap) (a : Addr) (items : Array Value) : Prop := ∃ o, h.get? a = some o ∧ o.cls = .type "tuple" ∧ (∃ n, o.data = .seq items n) ∧ o.dict = none
theorem Zil.new (h : Heap) (items : Array Value) : Zil (h.push { cls := .type "tuple", data := .seq items }) h.objs.size items := ⟨_, Heap.get?_push_size _ rfl, rfl, ⟨_, rfl⟩, rfl⟩
theorem Zil.tup {h : Heap} {a : Addr} {items : Array Value} (x : Zil h a items) : IsTup h a items := let ⟨o, e, c, d, _⟩ := x; ⟨o, e, c, d⟩
section
variable (P : Program) (w : World)
noncomputable def Zdb (H : Hp) (h : Heap) (a : Addr) : HO -> Prop
 | .lst xs => xs.length ≤ sizeLine ∧ ∃ (its : List Value) (n : Nat), Za8 xs its ∧ h.get? a = some { cls := .type "list", data := .seq its.toArray n }
 | .tup xs => xs.length ≤ sizeLine ∧ ∃ its : List Value, Za8 xs its ∧ Zil h a its.toArray
 | .dK kvs => kvs.length ≤ sizeLine ∧ (a == sysModules) = false ∧ ∃ vs, KV kvs vs ∧ h.DictOf (Zmm P w) a vs
 | .dT kvs => kvs.length ≤ sizeLine ∧ (a == sysModules) = false ∧ ∃ xs : List (List Key × Addr × Value),
   Paired (fun (p : List Key × V) (q : List Key × Addr × Value) => p.1 = q.1 ∧ H q.2.1 = some (.tup (p.1.map kV)) ∧ Zcn p.2 q.2.2) kvs xs ∧
   ∃ o es ep, h.get? a = some o ∧ o.ExactDict ∧ o.data = .dict es ep ∧ es.toList = xs.map (entryOfKey (tupleKind (Zmm P w))) ∧ (xs.map (·.1)).Nodup
 | .set S n => h.SetOf (intKind P w) a S n
 | .ins C dx fs => H dx = some (.own a) ∧ fs.length ≤ 1000 ∧ dx ≠ a ∧ h.get? a = some (PySem.W.instObj C dx) ∧
   ∃ mA, h.Ns1 dx mA ∧ (∀ f, Zsk (fs.lookup f) (mA f)) ∧ PySem.Within mA (fs.map (·.1))
 | .own _ => ∃ o, h.get? a = some o
 | .xd fs => ∃ mA, h.Ns1 a mA ∧ ∀ f, Zsk (fs.lookup f) (mA f)
 | .rng lo hi => ∃ t u v, h.get? a = some { cls := .type "range", data := .fields #[.int lo t, .int hi u, .int 1 v] }
 | .frz o u => h.get? a = some o ∧ Zdb H h a u
 | .tbl ps => h.get? a = some { cls := .none, data := .fields ps }
 | .met f x => h.get? a = some (PySem.W.methodObj (.ref f) (.ref x))
 | .ext φ => φ h ∧ (∃ o, h.get? a = some o) ∧ ∀ h1 h2 : Heap, φ h1 -> (∀ o, h1.get? a = some o -> h2.get? a = some o) -> φ h2
noncomputable def HOk (H : Hp) (h : Heap) : Prop := ∀ a o, H a = some o -> Zdb P w H h a o
end
section
variable {P : Program} {w : World} {H H' : Hp} {h h' : Heap} {a : Addr} {o : HO}
theorem Zdb.lt (x : Zdb P w H h a o) : a < h.objs.size := by
 cases o with
 | lst xs => obtain ⟨_, _, _, _, e⟩ := x; exact Heap.lt_size e
 | tup xs => obtain ⟨_, _, _, p⟩ := x; exact p.tup.lt
 | dK kvs => obtain ⟨_, _, _, _, o, _, _, e, _⟩ := x; exact Heap.lt_size e
 | dT kvs => obtain ⟨_, _, _, _, o, _, _, e, _⟩ := x; exact Heap.lt_size e
 | set S n => obtain ⟨o, _, _, _, e, _⟩ := x; exact Heap.lt_size e
 | ins C dx fs => obtain ⟨_, _, _, e, _⟩ := x; exact Heap.lt_size e
 | own y => obtain ⟨_, e⟩ := x; exact Heap.lt_size e
 | xd fs => obtain ⟨_, ⟨_, _, _, e, _⟩, _⟩ := x; exact Heap.lt_size e
 | rng lo hi => obtain ⟨_, _, _, e⟩ := x; exact Heap.lt_size e
 | frz ob u => obtain ⟨e, _⟩ := x; exact Heap.lt_size e
 | tbl ps => exact Heap.lt_size (show h.get? a = some _ from x)
 | met f y => exact Heap.lt_size (show h.get? a = some _ from x)
 | ext φ => obtain ⟨_, ⟨_, e⟩, _⟩ := x; exact Heap.lt_size e
theorem Paired.mapP {α β : Type} {F G : α -> β -> Prop} : ∀ {l₁ : List α} {l₂ : List β}, Paired F l₁ l₂ -> (∀ a b, F a b -> G a b) -> Paired G l₁ l₂
 | _, _, .nil, _ => .nil
 | _, _, .cons r t, f => .cons (f _ _ r) (Paired.mapP t f)
theorem Zdb.stay (x : Zdb P w H h a o) (k : ∀ b u, (b = a ∨ H b = some (.own a)) -> h.get? b = some u -> h'.get? b = some u)
  (ho : ∀ b, H b = some (.own a) -> H' b = some (.own a)) (ht : ∀ b xs, H b = some (.tup xs) -> H' b = some (.tup xs)) : Zdb P w H' h' a o := by
 induction o with
 | lst xs => obtain ⟨z, its, n, r, e⟩ := x; exact ⟨z, its, n, r, k _ _ (.inl rfl) e⟩
 | tup xs => obtain ⟨z, its, r, ob, e, c⟩ := x; exact ⟨z, its, r, ob, k _ _ (.inl rfl) e, c⟩
 | dK kvs => obtain ⟨z, y, vs, r, ob, es, ep, e, c⟩ := x; exact ⟨z, y, vs, r, ob, es, ep, k _ _ (.inl rfl) e, c⟩
 | dT kvs =>
  obtain ⟨z, y, xs, r, ob, es, ep, e, c⟩ := x
  exact ⟨z, y, xs, Paired.mapP r fun p q z => ⟨z.1, ht _ _ z.2.1, z.2.2⟩, ob, es, ep, k _ _ (.inl rfl) e, c⟩
 | set S n => obtain ⟨ob, es, ep, t, e, c⟩ := x; exact ⟨ob, es, ep, t, k _ _ (.inl rfl) e, c⟩
 | ins C dx fs =>
  obtain ⟨d, z, ne, e, mA, ⟨od, es, ep, e2, c⟩, r⟩ := x
  exact ⟨ho _ d, z, ne, k _ _ (.inl rfl) e, mA, ⟨od, es, ep, k _ _ (.inr d) e2, c⟩, r⟩
 | own y => obtain ⟨ob, e⟩ := x; exact ⟨ob, k _ _ (.inl rfl) e⟩
 | xd fs => obtain ⟨mA, ⟨od, es, ep, e, c⟩, r⟩ := x; exact ⟨mA, ⟨od, es, ep, k _ _ (.inl rfl) e, c⟩, r⟩
 | rng lo hi => obtain ⟨t, u, v, e⟩ := x; exact ⟨t, u, v, k _ _ (.inl rfl) e⟩
 | frz ob u ih => obtain ⟨e, q⟩ := x; exact ⟨k _ _ (.inl rfl) e, ih q⟩
 | tbl ps =>
  have e : h.get? a = some { cls := .none, data := .fields ps } := x
  show h'.get? a = some { cls := .none, data := .fields ps }
  exact k a _ (.inl rfl) e
 | met f y =>
  have e : h.get? a = some (PySem.W.methodObj (.ref f) (.ref y)) := x
  show h'.get? a = some (PySem.W.methodObj (.ref f) (.ref y))
  exact k a _ (.inl rfl) e
 | ext φ => obtain ⟨p, ⟨o, e⟩, st⟩ := x; exact ⟨st _ _ p fun o q => k _ _ (.inl rfl) q, ⟨o, k _ _ (.inl rfl) e⟩, st⟩
theorem HOk.lt (x : HOk P w H h) (e : H a = some o) : a < h.objs.size := (x a o e).lt
theorem HOk.fresh (x : HOk P w H h) (e : h.objs.size ≤ a) : H a = none := by
 cases q : H a with
 | none => rfl
 | some u => exact absurd (Nat.lt_of_lt_of_le (x.lt q) e) (Nat.lt_irrefl _)
theorem HOk.kept (x : HOk P w H h) (k : ∀ b u, h.get? b = some u -> h'.get? b = some u) : HOk P w H h' := fun a o e =>
 (x a o e).stay (fun b u _ q => k b u q) (fun _ q => q) fun _ _ q => q
theorem HOk.laid (x : HOk P w H h) (k : ∀ b u, h.get? b = some u -> h'.get? b = some u) (hp : h.objs.size ≤ a) (new : Zdb P w (upd H a o) h' a o) : HOk P w (upd H a o) h' := fun b u e => by
 have hn := x.fresh hp
 by_cases hb : b = a
 ·subst hb; rw [Zaq] at e; cases e; exact new
 ·rw [Zaj hb] at e
  exact (x b u e).stay (fun c v _ q => k c v q) (fun c q => by rw [Zaj (Zal q hn)]; exact q) fun c xs q => by rw [Zaj (Zal q hn)]; exact q
end
noncomputable def Rd (H : Hp) (a : Addr) (u : HO) : Prop := H a = some u ∨ ∃ o, H a = some (.frz o u)
theorem Rd.ok {P : Program} {w : World} {H : Hp} {h : Heap} {a : Addr} {u : HO} (r : Rd H a u) (x : HOk P w H h) : Zdb P w H h a u := by
 rcases r with r | ⟨o, r⟩
 ·exact x a u r
 ·obtain ⟨_, q⟩ := x a _ r
  exact q
noncomputable def Mut : Option HO -> Prop
 | some (.lst _) => True
 | some (.dK _) => True
 | some (.dT _) => True
 | some (.set _ _) => True
 | some (.ins _ _ _) => True
 | some (.ext _) => True
 | _ => False
section
variable {P : Program} {w : World} {H : Hp} {h h' : Heap} {x e : Addr} {o' : HO}
theorem HOk.write (ok : HOk P w H h) (mu : Mut (H x)) (he : e = x ∨ H e = some (.own x)) (k : ∀ b u, b ≠ e -> h.get? b = some u -> h'.get? b = some u) (heo : ∃ u, h'.get? e = some u)
  (new : Zdb P w (upd H x o') h' x o') : HOk P w (upd H x o') h' := fun b u q => by
 have nown : ∀ c y, H c = some (.own y) -> c ≠ x := fun c y r z => by subst z; rw [r] at mu; exact mu
 have ntup : ∀ c xs, H c = some (.tup xs) -> c ≠ x := fun c xs r z => by subst z; rw [r] at mu; exact mu
 by_cases hb : b = x
 ·subst hb; rw [Zaq] at q; cases q; exact new
 ·rw [Zaj hb] at q
  by_cases hbe : b = e
  ·have q' : H b = some (.own x) := by
    rcases he with z | z
    ·exact absurd (hbe.trans z) hb
    ·rw [hbe]; exact z
   rw [q] at q'; cases q'
   obtain ⟨v, hv⟩ := heo
   exact ⟨v, by rw [hbe]; exact hv⟩
  ·refine (ok b u q).stay (fun c v hc r => k c v ?_ r) (fun c r => by rw [Zaj (nown c b r)]; exact r) fun c xs r => by rw [Zaj (ntup c xs r)]; exact r
   rcases hc with rfl | hc
   ·exact hbe
   ·rintro rfl
    rcases he with z | z
    ·exact nown c b hc z
    ·rw [hc] at z; cases z; exact hb rfl
end
structure Un (fs ex : List Addr) (H H' : Hp) (h h' : Heap) : Prop where
 keep : ∀ b o, h.get? b = some o -> H b = none -> b ∉ fs -> b ∉ ex -> h'.get? b = some o
 slot : ∀ b o, h.get? b = some o -> H b = none -> b ∈ fs -> b ∉ ex -> ∃ sl, h'.get? b = some { o with slots := sl }
 free : ∀ b o, h.get? b = some o -> H b = none -> b ∉ ex -> H' b = none
 there : ∀ b o, h.get? b = some o -> b ∉ ex -> ∃ o', h'.get? b = some o'
 tups : ∀ b xs, H b = some (.tup xs) -> H' b = some (.tup xs)
 frzs : ∀ b o u, H b = some (.frz o u) -> H' b = some (.frz o u)
 tbls : ∀ b ps, H b = some (.tbl ps) -> ∃ more, H' b = some (.tbl (ps ++ more))
section
variable {fs fs' ex ex' : List Addr} {H H1 H2 : Hp} {h h1 h2 h' : Heap} {a x e : Addr} {o : HO}
theorem Un.any (u : Un fs ex H H1 h h1) {b : Addr} {ob : Obj} (q : h.get? b = some ob) (n : H b = none) (hx : b ∉ ex) : ∃ sl, h1.get? b = some { ob with slots := sl } := by
 by_cases hb : b ∈ fs
 ·exact u.slot b ob q n hb hx
 ·exact ⟨ob.slots, u.keep b ob q n hb hx⟩
theorem Un.trans (a : Un fs ex H H1 h h1) (b : Un fs ex H1 H2 h1 h2) : Un fs ex H H2 h h2 where
 keep := fun c ob q n hc hx => b.keep c ob (a.keep c ob q n hc hx) (a.free c ob q n hx) hc hx
 slot := fun c ob q n hc hx => by
  obtain ⟨sl, e1⟩ := a.slot c ob q n hc hx
  obtain ⟨sl', e2⟩ := b.slot c _ e1 (a.free c ob q n hx) hc hx
  exact ⟨sl', e2⟩
 free := fun c ob q n hx => by
  obtain ⟨o', e1⟩ := a.there c ob q hx
  exact b.free c o' e1 (a.free c ob q n hx) hx
 there := fun c ob q hx => by
  obtain ⟨o', e1⟩ := a.there c ob q hx
  exact b.there c o' e1 hx
 tups := fun c xs q => b.tups c xs (a.tups c xs q)
 frzs := fun c ob xs q => b.frzs c ob xs (a.frzs c ob xs q)
 tbls := fun c ps q => by
  obtain ⟨m1, e1⟩ := a.tbls c ps q
  obtain ⟨m2, e2⟩ := b.tbls c _ e1
  exact ⟨m1 ++ m2, by rw [e2, Array.append_assoc]⟩
theorem Un.kept (k : ∀ b u, h.get? b = some u -> h'.get? b = some u) : Un fs ex H H h h' :=
 ⟨fun b ob q _ _ _ => k b ob q, fun b ob q _ _ _ => ⟨ob.slots, k b ob q⟩, fun _ _ _ n _ => n, fun b ob q _ => ⟨ob, k b ob q⟩, fun _ _ q => q, fun _ _ _ q => q, fun _ ps q => ⟨#[], by rw [q]; simp⟩⟩
theorem Un.refl : Un fs ex H H h h := Un.kept fun _ _ q => q
theorem Un.laid (k : ∀ b u, h.get? b = some u -> h'.get? b = some u) (hp : h.objs.size ≤ a) (hn : H a = none) : Un fs ex H (upd H a o) h h' where
 keep := fun b u q _ _ _ => k b u q
 slot := fun b u q _ _ _ => ⟨u.slots, k b u q⟩
 free := fun b u q n _ => by rw [Zaj (Nat.ne_of_lt (Nat.lt_of_lt_of_le (Heap.lt_size q) hp))]; exact n
 there := fun b u q _ => ⟨u, k b u q⟩
 tups := fun b xs q => by rw [Zaj (Zal q hn)]; exact q
 frzs := fun b u xs q => by rw [Zaj (Zal q hn)]; exact q
 tbls := fun b ps q => ⟨#[], by rw [Zaj (Zal q hn), q]; simp⟩
theorem Un.write (mu : Mut (H x)) (he : e = x ∨ H e = some (.own x)) (k : ∀ b u, b ≠ e -> h.get? b = some u -> h'.get? b = some u) (heo : ∃ u, h'.get? e = some u) : Un fs ex H (upd H x o) h h' := by
 have hx : ∀ b, H b = none -> b ≠ x := fun b n z => by subst z; rw [n] at mu; exact mu
 have hb : ∀ b, H b = none -> b ≠ e := fun b n z => by
  subst z
  rcases he with r | r
  ·exact hx b n r
  ·rw [n] at r; cases r
 have hm : ∀ b u, H b = some u -> ¬ Mut (some u) -> b ≠ x := fun b u q nm z => by subst z; rw [q] at mu; exact nm mu
 refine ⟨fun b u q n _ _ => k b u (hb b n) q, fun b u q n _ _ => ⟨u.slots, k b u (hb b n) q⟩, fun b u q n _ => by rw [Zaj (hx b n)]; exact n, fun b u q _ => ?_,
  fun b xs q => by rw [Zaj (hm b _ q fun z => z)]; exact q, fun b u xs q => by rw [Zaj (hm b _ q fun z => z)]; exact q, fun b ps q => ⟨#[], by rw [Zaj (hm b _ q fun z => z), q]; simp⟩⟩
 by_cases hbe : b = e
 ·subst hbe; exact heo
 ·exact ⟨u, k b u hbe q⟩
theorem Un.mono (u : Un fs ex H H1 h h1) (hs : ∀ b ∈ fs, b ∈ fs') (hx : ∀ b ∈ ex, b ∈ ex') : Un fs' ex' H H1 h h1 :=
 ⟨fun b ob q n hb he => u.keep b ob q n (fun z => hb (hs b z)) fun z => he (hx b z), fun _ _ q n _ he => u.any q n fun z => he (hx _ z), fun b ob q n he => u.free b ob q n fun z => he (hx b z), fun b ob q he => u.there b ob q fun z => he (hx b z), u.tups, u.frzs, u.tbls⟩
end
noncomputable def trk (h : Heap) (H : Hp) : List Addr := (List.range h.objs.size).filter fun a => (H a).isSome
noncomputable def Zub (h : Heap) (H : Hp) : Heap := PySem.W.hideAll h (trk h H)
theorem Zph (h : Heap) (H : Hp) : (Zub h H).objs.size = h.objs.size := PySem.W.hideAll_size _ _
theorem Ztx {h : Heap} {H : Hp} {b : Addr} {o : Obj} (e : h.get? b = some o) (n : H b = none) : (Zub h H).get? b = some o :=
 PySem.W.hideAll_get _ e fun hm => by
  have q : (H b).isSome = true := (List.mem_filter.mp hm).2
  rw [n] at q; simp at q
theorem Zwy {h : Heap} {H : Hp} {b : Addr} {o : Obj} (e : (Zub h H).get? b = some o) : h.get? b = some o ∧ H b = none := by
 have e' : h.get? b = some o := PySem.W.of_hideAll (trk h H) e
 refine ⟨e', ?_⟩
 cases q : H b with
 | none => rfl
 | some x =>
  have hm : b ∈ trk h H := List.mem_filter.mpr ⟨List.mem_range.mpr (Heap.lt_size e'), by simp [q]⟩
  have z : (Zub h H).get? b = none := PySem.W.hideAll_none (trk h H) hm
  rw [z] at e; cases e
structure Mod (K : PySem.W.Frag) (mg : Str -> Option Value) (base : Heap) : Prop where
 kin : K.In base
 glob : base.Ns mainGlobals mg
 blt : ∃ mb, base.Ns builtinsNs mb ∧ ∀ x : Str, x ≠ "__name__" → mb x = bootBuiltins x
 nolimit : base.NoLimit
structure Cx where
 prog : Program
 w : World
 K : PySem.W.Frag
 mg : Str -> Option Value
 base : Heap
 A : Around
 N : List Str
 s₀ : Shared
 H₀ : Hp
 env : Env
 outer : List Env
 stack : List Env
 ex : List Addr
 fn : Str -> Bool
 calm : Bool
 pn : List (Addr × Obj)
 xe : Value -> Shared -> Prop
noncomputable def frs (l : List Env) : List Addr := l.filterMap (·.frame)
noncomputable abbrev Cx.fs (X : Cx) : List Addr := frs X.outer
noncomputable def Vis (sc : Scope) (x : Str) : Prop := sc.names.lookup x = some .local ∨ sc.names.lookup x = some .cell ∨ sc.names.lookup x = some .free
noncomputable def Loc (sc : Scope) (x : Str) : Prop := sc.names.lookup x = some .local ∨ sc.names.lookup x = some .cell
noncomputable def Look (env : Env) (h : Heap) (m : Str -> Option Value) (x : Str) (u : Value) : Prop :=
 (env.kindOf x = some .local ∧ m x = some u) ∨ ((env.kindOf x = some .cell ∨ env.kindOf x = some .free) ∧ ∃ c, env.cells.lookup x = some c ∧ h.IsCell c (some u))
structure Cx.Ok (X : Cx) : Prop where
 mod : Mod X.K X.mg X.base
 kind : X.env.scope.kind = .function
 glob : X.env.globals = mainGlobals
 blt : X.env.builtins = builtinsNs
 above : X.s₀.heap.objs.size ≤ X.env.locals
 inj : ∀ x y c, X.env.cells.lookup x = some c -> X.env.cells.lookup y = some c -> x = y
 has : ∀ x, (X.env.kindOf x = some .cell ∨ X.env.kindOf x = some .free) -> ∃ c, X.env.cells.lookup x = some c
 cab : ∀ x c, X.fn x = true -> X.env.cells.lookup x = some c -> X.s₀.heap.objs.size ≤ c
 hd : X.calm = true -> X.A.handled = none
 frames : X.A.frames = some X.stack
 stk : X.stack = X.outer ∨ (X.stack = X.env :: X.outer ∧ X.env.frame = some X.env.locals)
 exf : ∀ b ∈ X.ex, b ≠ X.env.locals ∧ ∀ x c, X.env.cells.lookup x = some c -> c ≠ b
 bs : ∀ b o, X.base.get? b = some o -> X.s₀.heap.get? b = some o ∧ X.H₀ b = none
 bsz : X.base.objs.size ≤ X.s₀.heap.objs.size
 noex : ∀ b o, X.base.get? b = some o -> b ∉ X.ex
 exfs : ∀ b ∈ X.ex, b ∉ X.fs
 funs : X.s₀.heap.FunFrames X.base X.outer
 frf : ∀ b ∈ X.fs, X.H₀ b = none
structure Inv (X : Cx) (pins : List (Addr × Obj)) (σ : List (Option V)) (H : Hp) (s : Shared) : Prop where
 ok : X.Ok
 os : s.os = X.s₀.os
 bare : AllBare s.gens
 base : Un X.fs X.ex X.H₀ H X.s₀.heap s.heap
 loc : ∃ m, s.heap.Ns X.env.locals m ∧ ∀ (i : Nat) (x : Str) (v : V), X.N[i]? = some x -> σ[i]? = some (some v) -> Vis X.env.scope x -> ∃ u, Zcn v u ∧ Look X.env s.heap m x u
 cell : ∀ x c, X.env.cells.lookup x = some c -> ∃ v, s.heap.IsCell c v
 free : H X.env.locals = none
 freeC : ∀ x c, X.env.cells.lookup x = some c -> H c = none
 pin : ∀ p ∈ X.pn ++ pins, s.heap.get? p.1 = some p.2 ∧ H p.1 = none ∧ p.1 ≠ X.env.locals ∧ p.1 ∉ X.fs ∧ ∀ v, p.2.data ≠ .cell v
 hok : HOk X.prog X.w H s.heap
 len : σ.length = X.N.length
section
variable {X : Cx} {pins : List (Addr × Obj)} {σ : List (Option V)} {H H' : Hp} {s : Shared} {h' : Heap}
theorem Cx.Ok.nofr (ok : X.Ok) {b : Addr} {o : Obj} (e : X.base.get? b = some o) : b ∉ X.fs := fun hb => by
 have := (ok.funs.mem hb).1
 rw [e] at this; cases this
theorem Inv.bs (I : Inv X pins σ H s) : ∀ b o, X.base.get? b = some o -> s.heap.get? b = some o ∧ H b = none := fun b o e =>
 ⟨I.base.keep b o (I.ok.bs b o e).1 (I.ok.bs b o e).2 (I.ok.nofr e) (I.ok.noex b o e), I.base.free b o (I.ok.bs b o e).1 (I.ok.bs b o e).2 (I.ok.noex b o e)⟩
theorem Inv.bk (I : Inv X pins σ H s) : ∀ b o, X.base.get? b = some o -> s.heap.get? b = some o := fun b o e => (I.bs b o e).1
theorem Inv.mod (I : Inv X pins σ H s) : Mod X.K X.mg X.base := I.ok.mod
theorem Inv.kIn (I : Inv X pins σ H s) : X.K.In s.heap := I.ok.mod.kin.keeps I.bk
theorem Inv.lt (I : Inv X pins σ H s) : X.env.locals < s.heap.objs.size := let ⟨_, hn, _⟩ := I.loc; hn.lt
theorem Inv.sz (I : Inv X pins σ H s) : X.s₀.heap.objs.size ≤ s.heap.objs.size := Nat.le_trans I.ok.above (Nat.le_of_lt I.lt)
theorem Inv.nofs (I : Inv X pins σ H s) {a : Addr} (h : s.heap.objs.size ≤ a) : a ∉ X.fs := fun hb => by
 obtain ⟨_, o, ho, _⟩ := I.ok.funs.mem hb
 exact absurd (Nat.lt_of_lt_of_le (Heap.lt_size ho) (Nat.le_trans I.sz h)) (Nat.lt_irrefl _)
theorem Inv.cne (I : Inv X pins σ H s) : ∀ x c, X.env.cells.lookup x = some c -> c ≠ X.env.locals := fun x c e z => by
 obtain ⟨v, o, ho, hd⟩ := I.cell x c e
 obtain ⟨m, ⟨o', es, ep, ho', hd', _⟩, _⟩ := I.loc
 rw [z, ho'] at ho; cases ho; rw [hd'] at hd; cases hd
theorem Inv.funs (I : Inv X pins σ H s) : s.heap.FunFrames X.base X.outer := by
 have all : ∀ (l : List Env), (∀ b ∈ frs l, b ∈ X.fs) -> X.s₀.heap.FunFrames X.base l -> s.heap.FunFrames X.base l := by
  intro l
  induction l with
  | nil => intro _ _; trivial
  | cons env r ih =>
   intro hs hl
   obtain ⟨hk, ⟨L, o, hf, hn, ho, hd⟩, hr⟩ := hl
   have hL : L ∈ X.fs := hs L (by unfold frs; rw [List.filterMap_cons, hf]; exact List.mem_cons_self)
   obtain ⟨sl, e⟩ := I.base.slot L o ho (I.ok.frf L hL) hL fun z => I.ok.exfs L z hL
   exact ⟨hk, ⟨L, _, hf, hn, e, hd⟩, ih (fun b hb => hs b (by unfold frs; rw [List.filterMap_cons, hf]; exact List.mem_cons_of_mem _ hb)) hr⟩
 exact all X.outer (fun _ hb => hb) I.ok.funs
theorem Inv.stack (I : Inv X pins σ H s) : s.heap.FunFrames X.base X.stack := by
 rcases I.ok.stk with e | ⟨e, hf⟩
 ·rw [e]; exact I.funs
 ·rw [e]
  obtain ⟨m, hn, _⟩ := I.loc
  refine .cons (by rw [I.ok.kind]; decide) hf hn ?_ I.funs
  exact Heap.get?_none_of_le (Nat.le_trans I.ok.bsz I.ok.above)
theorem Inv.stkSub (I : Inv X pins σ H s) : ∀ b ∈ frs X.stack, b ∈ X.env.locals :: X.fs := fun b hb => by
 rcases I.ok.stk with e | ⟨e, hf⟩
 ·rw [e] at hb; exact List.mem_cons_of_mem _ hb
 ·rw [e] at hb
  unfold frs at hb
  rw [List.filterMap_cons, hf] at hb
  exact hb
theorem Inv.stkFree (I : Inv X pins σ H s) : ∀ b ∈ frs X.stack, H b = none := fun b hb => by
 rcases List.mem_cons.mp (I.stkSub b hb) with e | hb
 ·rw [e]; exact I.free
 ·obtain ⟨_, o, ho, _⟩ := I.ok.funs.mem hb
  exact I.base.free b o ho (I.ok.frf b hb) fun z => I.ok.exfs b z hb
theorem Inv.step {g' : Array GenState} {t' : Nat} {d' : Drawn} {ch : List Addr} (I : Inv X pins σ H s)
  (hch : ∀ b ∈ ch, (b ∈ X.ex ∨ X.s₀.heap.objs.size ≤ b) ∧ b ≠ X.env.locals ∧ (∀ x c, X.env.cells.lookup x = some c -> c ≠ b) ∧ ∀ p ∈ X.pn ++ pins, p.1 ≠ b)
  (keep : ∀ b o, b ≠ X.env.locals -> b ∉ X.fs -> b ∉ ch -> s.heap.get? b = some o -> H b = none -> h'.get? b = some o)
  (slot : ∀ b o, b ≠ X.env.locals -> b ∈ X.fs -> b ∉ ch -> s.heap.get? b = some o -> H b = none -> ∃ sl, h'.get? b = some { o with slots := sl }) (free : ∀ b o, b ∉ ch -> s.heap.get? b = some o -> H b = none -> H' b = none)
  (there : ∀ b o, b ∉ ch -> s.heap.get? b = some o -> ∃ o', h'.get? b = some o')
  (tups : ∀ b xs, H b = some (.tup xs) -> H' b = some (.tup xs)) (frzs : ∀ b o u, H b = some (.frz o u) -> H' b = some (.frz o u)) (tbls : ∀ b ps, H b = some (.tbl ps) -> ∃ more, H' b = some (.tbl (ps ++ more)))
  (ns : ∀ m, s.heap.Ns X.env.locals m -> h'.Ns X.env.locals m) (hok : HOk X.prog X.w H' h') (hg : AllBare g') :
  Inv X pins σ H' { s with heap := h', gens := g', drawn := d', toks := t' } := by
 have neL : ∀ b o, X.s₀.heap.get? b = some o -> b ≠ X.env.locals := fun b o e => Nat.ne_of_lt (Nat.lt_of_lt_of_le (Heap.lt_size e) I.ok.above)
 have neC : ∀ b o, X.s₀.heap.get? b = some o -> b ∉ X.ex -> b ∉ ch := fun b o e hx hb => by
  rcases (hch b hb).1 with z | z
  ·exact hx z
  ·exact absurd (Nat.lt_of_lt_of_le (Heap.lt_size e) z) (Nat.lt_irrefl _)
 have cellK : ∀ x c, X.env.cells.lookup x = some c -> ∀ v, s.heap.IsCell c v -> h'.IsCell c v := fun x c e v ⟨o, ho, hd⟩ => by
  have nch : c ∉ ch := fun z => (hch c z).2.2.1 x c e rfl
  by_cases hc : c ∈ X.fs
  ·obtain ⟨sl, q⟩ := slot c o (I.cne x c e) hc nch ho (I.freeC x c e)
   exact ⟨_, q, hd⟩
  ·exact ⟨o, keep c o (I.cne x c e) hc nch ho (I.freeC x c e), hd⟩
 refine ⟨I.ok, I.os, hg, ⟨fun b o e n hb hx => ?_, fun b o e n hb hx => ?_, fun b o e n hx => ?_, fun b o e hx => ?_, fun b xs e => tups b xs (I.base.tups b xs e), fun b o xs e => frzs b o xs (I.base.frzs b o xs e), fun b ps e => ?_⟩, ?_, fun x c e => ?_, ?_, fun x c e => ?_, fun p hp => ?_, hok, I.len⟩
 ·exact keep b o (neL b o e) hb (neC b o e hx) (I.base.keep b o e n hb hx) (I.base.free b o e n hx)
 ·obtain ⟨sl, e1⟩ := I.base.slot b o e n hb hx
  obtain ⟨sl', e2⟩ := slot b _ (neL b o e) hb (neC b o e hx) e1 (I.base.free b o e n hx)
  exact ⟨sl', e2⟩
 ·obtain ⟨o', e1⟩ := I.base.there b o e hx
  exact free b o' (neC b o e hx) e1 (I.base.free b o e n hx)
 ·obtain ⟨o', e1⟩ := I.base.there b o e hx
  exact there b o' (neC b o e hx) e1
 ·obtain ⟨m1, e1⟩ := I.base.tbls b ps e
  obtain ⟨m2, e2⟩ := tbls b _ e1
  exact ⟨m1 ++ m2, by rw [e2, Array.append_assoc]⟩
 ·obtain ⟨m, hn, hl⟩ := I.loc
  refine ⟨m, ns m hn, fun i x v e1 e2 e3 => ?_⟩
  obtain ⟨u, r, l⟩ := hl i x v e1 e2 e3
  refine ⟨u, r, ?_⟩
  rcases l with l | ⟨k, c, e, z⟩
  ·exact .inl l
  ·exact .inr ⟨k, c, e, cellK x c e _ z⟩
 ·obtain ⟨v, z⟩ := I.cell x c e
  exact ⟨v, cellK x c e v z⟩
 ·obtain ⟨m, ⟨o, _, _, ho, _⟩, _⟩ := I.loc
  exact free _ o (fun z => (hch _ z).2.1 rfl) ho I.free
 ·obtain ⟨v, o, ho, hd⟩ := I.cell x c e
  exact free c o (fun z => (hch c z).2.2.1 x c e rfl) ho (I.freeC x c e)
 ·obtain ⟨e, n, ne, nf, d⟩ := I.pin p hp
  have nch : p.1 ∉ ch := fun z => (hch p.1 z).2.2.2 p hp rfl
  exact ⟨keep p.1 p.2 ne nf nch e n, free p.1 p.2 nch e n, ne, nf, d⟩
theorem Inv.un {t' : Nat} (I : Inv X pins σ H s) (u : Un X.fs [] H H' s.heap h') (hok : HOk X.prog X.w H' h') : Inv X pins σ H' { s with heap := h', toks := t' } := by
 obtain ⟨m, ⟨o, es, ep, ho, r⟩, _⟩ := id I.loc
 obtain ⟨sl, hL⟩ := u.any ho I.free (by simp)
 exact I.step (g' := s.gens) (d' := s.drawn) (ch := []) (fun _ z => nomatch z) (fun b o _ hb _ e n => u.keep b o e n hb (by simp)) (fun b o _ hb _ e n => u.slot b o e n hb (by simp)) (fun b o _ e n => u.free b o e n (by simp)) (fun b o _ e => u.there b o e (by simp)) u.tups u.frzs u.tbls (fun m' hm => by
  obtain ⟨o', es', ep', ho', r'⟩ := hm
  rw [ho] at ho'; cases ho'
  exact ⟨_, es', ep', hL, r'⟩) hok I.bare
theorem Inv.call {g' : Array GenState} {t' : Nat} {d' : Drawn} {ch : List Addr} (I : Inv X pins σ H s) (u : Un (frs X.stack) ch H H' s.heap h') (hok : HOk X.prog X.w H' h') (hg : AllBare g')
  (hch : ∀ b ∈ ch, (b ∈ X.ex ∨ X.s₀.heap.objs.size ≤ b) ∧ b ≠ X.env.locals ∧ (∀ x c, X.env.cells.lookup x = some c -> c ≠ b) ∧ ∀ p ∈ X.pn ++ pins, p.1 ≠ b) :
  Inv X pins σ H' { s with heap := h', gens := g', drawn := d', toks := t' } := by
 obtain ⟨m, ⟨o, es, ep, ho, r⟩, _⟩ := id I.loc
 obtain ⟨sl, hL⟩ := u.any ho I.free fun z => (hch _ z).2.1 rfl
 exact I.step (ch := ch) hch (fun b o hL hb hc e n => u.keep b o e n (fun z => (List.mem_cons.mp (I.stkSub b z)).elim hL hb) hc) (fun b o _ _ hc e n => u.any e n hc) (fun b o hc e n => u.free b o e n hc) (fun b o hc e => u.there b o e hc) u.tups u.frzs u.tbls (fun m' hm => by
  obtain ⟨o', es', ep', ho', r'⟩ := hm
  rw [ho] at ho'; cases ho'
  exact ⟨_, es', ep', hL, r'⟩) hok hg
theorem Inv.turned {t' : Nat} {it : Addr} (I : Inv X pins σ H s) (k : ∀ b o, b ≠ it -> s.heap.get? b = some o -> h'.get? b = some o) (hn : H it = none) (hL : it ≠ X.env.locals)
  (h1 : it ∈ X.ex ∨ X.s₀.heap.objs.size ≤ it) (h2 : ∀ x c, X.env.cells.lookup x = some c -> c ≠ it) (h3 : ∀ p ∈ X.pn ++ pins, p.1 ≠ it) : Inv X pins σ H { s with heap := h', toks := t' } := by
 have nit : ∀ b u, H b = some u -> b ≠ it := fun b u e z => by rw [z, hn] at e; cases e
 refine I.step (g' := s.gens) (d' := s.drawn) (ch := [it]) (fun b hb => ?_) (fun b o _ _ hc e _ => k b o (fun z => hc (by simp [z])) e) (fun b o _ _ hc e _ => ⟨o.slots, k b o (fun z => hc (by simp [z])) e⟩) (fun _ _ _ _ n => n)
  (fun b o hc e => ⟨o, k b o (fun z => hc (by simp [z])) e⟩) (fun _ _ e => e) (fun _ _ _ e => e) (fun b ps e => ⟨#[], by rw [e]; simp⟩) (fun m hm => ?_) (fun b u e => ?_) I.bare
 ·have e : b = it := by simpa using hb
  subst e
  exact ⟨h1, hL, h2, h3⟩
 ·obtain ⟨o, es, ep, ho, r⟩ := hm
  exact ⟨o, es, ep, k _ o (Ne.symm hL) ho, r⟩
 ·refine (I.hok b u e).stay (fun c v hc q => k c v ?_ q) (fun _ q => q) fun _ _ q => q
  rcases hc with z | z
  ·rw [z]; exact nit b u e
  ·exact nit c _ z
theorem Inv.tok (I : Inv X pins σ H s) (t : Nat) : Inv X pins σ H { s with toks := t } := I.un (h' := s.heap) (t' := t) Un.refl I.hok
theorem Inv.kept {t' : Nat} (I : Inv X pins σ H s) (k : ∀ b u, s.heap.get? b = some u -> h'.get? b = some u) : Inv X pins σ H { s with heap := h', toks := t' } := I.un (Un.kept k) (I.hok.kept k)
theorem Inv.laid {a : Addr} {o : HO} {t' : Nat} (I : Inv X pins σ H s) (k : ∀ b u, s.heap.get? b = some u -> h'.get? b = some u) (hp : s.heap.objs.size ≤ a) (new : Zdb X.prog X.w (upd H a o) h' a o) :
  Inv X pins σ (upd H a o) { s with heap := h', toks := t' } := I.un (Un.laid k hp (I.hok.fresh hp)) (I.hok.laid k hp new)
theorem Inv.write {x e : Addr} {o : HO} {t' : Nat} (I : Inv X pins σ H s) (mu : Mut (H x)) (he : e = x ∨ H e = some (.own x)) (k : ∀ b u, b ≠ e -> s.heap.get? b = some u -> h'.get? b = some u) (heo : ∃ u, h'.get? e = some u)
  (new : Zdb X.prog X.w (upd H x o) h' x o) : Inv X pins σ (upd H x o) { s with heap := h', toks := t' } := I.un (Un.write mu he k heo) (I.hok.write mu he k heo new)
theorem Inv.pins_of {pins' : List (Addr × Obj)} (I : Inv X pins σ H s) (h : ∀ p ∈ pins', s.heap.get? p.1 = some p.2 ∧ H p.1 = none ∧ p.1 ≠ X.env.locals ∧ p.1 ∉ X.fs ∧ ∀ v, p.2.data ≠ .cell v) : Inv X pins' σ H s :=
 ⟨I.ok, I.os, I.bare, I.base, I.loc, I.cell, I.free, I.freeC, fun p hp => (List.mem_append.mp hp).elim (fun z => I.pin p (List.mem_append_left _ z)) (h p), I.hok, I.len⟩
theorem Zjg {N : List Str} (hN : N.Nodup) {i j : Nat} {x : Str} (a : N[i]? = some x) (b : N[j]? = some x) : i = j := by
 obtain ⟨h1, e1⟩ := List.getElem?_eq_some_iff.mp a
 obtain ⟨h2, e2⟩ := List.getElem?_eq_some_iff.mp b
 exact (List.getElem_inj hN).mp (e1.trans e2.symm)
theorem Zk8 {M : Model} {A : Around} {E : Value -> Shared -> Prop} {i : Nat} {x : Str} {v : V} {u : Value} {Q : Unit -> Shared -> Prop} (I : Inv X pins σ H s) (hN : X.N.Nodup) (hi : X.N[i]? = some x) (hx : Loc X.env.scope x) (r : Zcn v u)
  (h : ∀ s', Inv X pins (σ.set i (some v)) H s' -> (∃ a, Heap.SameBut a s.heap s'.heap ∧ (a = X.env.locals ∨ X.env.cells.lookup x = some a)) -> Q () s') (hf : X.fn x = true ∨ X.env.scope.names.lookup x = some .local := by first | exact .inl rfl | exact .inr rfl | assumption) : wpAny M A (storeName X.env x u) Q E s := by
 obtain ⟨m, hn, hl⟩ := id I.loc
 have hcls : (X.env.scope.kind == .class || (X.env.scope.kind == .module && X.env.locals != X.env.globals)) = false := by rw [I.ok.kind]; rfl
 have hiσ : i < σ.length := by rw [I.len]; exact (List.getElem?_eq_some_iff.mp hi).1
 have cne := I.cne
 have tracked : ∀ {a : Addr} {h' : Heap}, (∃ o, s.heap.get? a = some o ∧ H a = none) -> Heap.SameBut a s.heap h' -> HOk X.prog X.w H h' := fun {a h'} ha hs b ob e => by
  obtain ⟨_, _, hfree⟩ := ha
  refine (I.hok b ob e).stay (fun c w' hc q => (hs.2 c ?_).trans q) (fun _ q => q) fun _ _ q => q
  rintro rfl
  rcases hc with rfl | hc
  ·rw [hfree] at e; cases e
  ·rw [hfree] at hc; cases hc
 rcases hx with hk | hk
 ·refine wpAny_storeName_local hk hn (fun h' hn' hs => ?_) hcls
  obtain ⟨oL, _, _, hoL, _⟩ := id hn
  refine h _ ⟨I.ok, I.os, I.bare, ⟨fun b o e n hb hx => ?_, fun b o e n hb hx => ?_, I.base.free, fun b o e hx => ?_, I.base.tups, I.base.frzs, I.base.tbls⟩, ⟨_, hn', fun j y v' e1 e2 e3 => ?_⟩, fun y c e => ?_, I.free, I.freeC, fun p hp => ?_, tracked ⟨oL, hoL, I.free⟩ hs, by simpa using I.len⟩ ⟨_, hs, .inl rfl⟩
  ·exact (hs.2 b (Nat.ne_of_lt (Nat.lt_of_lt_of_le (Heap.lt_size e) I.ok.above))).trans (I.base.keep b o e n hb hx)
  ·obtain ⟨sl, e1⟩ := I.base.slot b o e n hb hx
   exact ⟨sl, (hs.2 b (Nat.ne_of_lt (Nat.lt_of_lt_of_le (Heap.lt_size e) I.ok.above))).trans e1⟩
  ·obtain ⟨o', e1⟩ := I.base.there b o e hx
   exact ⟨o', (hs.2 b (Nat.ne_of_lt (Nat.lt_of_lt_of_le (Heap.lt_size e) I.ok.above))).trans e1⟩
  ·by_cases hj : j = i
   ·subst hj
    rw [hi] at e1; cases e1
    rw [List.getElem?_set_self hiσ] at e2
    cases e2
    exact ⟨u, r, .inl ⟨hk, by simp⟩⟩
   ·rw [List.getElem?_set_ne (Ne.symm hj)] at e2
    obtain ⟨u', r', q⟩ := hl j y v' e1 e2 e3
    refine ⟨u', r', ?_⟩
    rcases q with ⟨k, e⟩ | ⟨k, c, e, z⟩
    ·refine .inl ⟨k, ?_⟩
     have : y ≠ x := fun e => hj (Zjg hN e1 (e ▸ hi))
     simp [this, e]
    ·exact .inr ⟨k, c, e, z.sameBut hs (cne y c e)⟩
  ·obtain ⟨w', z⟩ := I.cell y c e
   exact ⟨w', z.sameBut hs (cne y c e)⟩
  ·obtain ⟨e, n, ne, nf, d⟩ := I.pin p hp
   exact ⟨(hs.2 p.1 ne).trans e, n, ne, nf, d⟩
 ·have hfn : X.fn x = true := by
   rcases hf with z | z
   ·exact z
   ·rw [z] at hk; cases hk
  obtain ⟨c, hc⟩ := I.ok.has x (.inl hk)
  obtain ⟨w', z⟩ := I.cell x c hc
  refine wpAny_storeName_cell I.ok.kind hk hc z (fun h' hc' hs => ?_)
  obtain ⟨oc, hoc, hocd⟩ := id z
  refine h { s with heap := h' } ⟨I.ok, I.os, I.bare, ⟨fun b o e n hb hx => ?_, fun b o e n hb hx => ?_, I.base.free, fun b o e hx => ?_, I.base.tups, I.base.frzs, I.base.tbls⟩, ⟨m, hn.sameBut hs (Ne.symm (cne x c hc)), fun j y v' e1 e2 e3 => ?_⟩, fun y c' e => ?_, I.free, I.freeC, fun p hp => ?_, tracked ⟨oc, hoc, I.freeC x c hc⟩ hs, by simpa using I.len⟩ ⟨c, hs, .inr hc⟩
  ·exact (hs.2 b (Nat.ne_of_lt (Nat.lt_of_lt_of_le (Heap.lt_size e) (I.ok.cab x c hfn hc)))).trans (I.base.keep b o e n hb hx)
  ·obtain ⟨sl, e1⟩ := I.base.slot b o e n hb hx
   exact ⟨sl, (hs.2 b (Nat.ne_of_lt (Nat.lt_of_lt_of_le (Heap.lt_size e) (I.ok.cab x c hfn hc)))).trans e1⟩
  ·obtain ⟨o', e1⟩ := I.base.there b o e hx
   exact ⟨o', (hs.2 b (Nat.ne_of_lt (Nat.lt_of_lt_of_le (Heap.lt_size e) (I.ok.cab x c hfn hc)))).trans e1⟩
  ·by_cases hj : j = i
   ·subst hj
    rw [hi] at e1; cases e1
    rw [List.getElem?_set_self hiσ] at e2
    cases e2
    exact ⟨u, r, .inr ⟨.inl hk, c, hc, hc'⟩⟩
   ·rw [List.getElem?_set_ne (Ne.symm hj)] at e2
    obtain ⟨u', r', q⟩ := hl j y v' e1 e2 e3
    refine ⟨u', r', ?_⟩
    rcases q with q | ⟨k, c', e, z'⟩
    ·exact .inl q
    ·refine .inr ⟨k, c', e, z'.sameBut hs ?_⟩
     rintro rfl
     exact hj (Zjg hN e1 (I.ok.inj _ _ _ e hc ▸ hi))
  ·by_cases hcc : c' = c
   ·subst hcc; exact ⟨_, hc'⟩
   ·obtain ⟨w2, z2⟩ := I.cell y c' e
    exact ⟨w2, z2.sameBut hs hcc⟩
  ·obtain ⟨e, n, ne, nf, d⟩ := I.pin p hp
   refine ⟨(hs.2 p.1 ?_).trans e, n, ne, nf, d⟩
   intro q
   rw [q, hoc] at e
   have q' : oc = p.2 := Option.some.inj e
   exact d w' (by rw [← q']; exact hocd)
theorem Zju {M : Model} {A : Around} {E : Value -> Shared -> Prop} {i : Nat} {x : Str} {v : V} {u : Value} {Q : Unit -> Shared -> Prop} (I : Inv X pins σ H s) (hN : X.N.Nodup) (hi : X.N[i]? = some x) (hx : Loc X.env.scope x) (r : Zcn v u)
  (h : ∀ s', Inv X pins (σ.set i (some v)) H s' -> Q () s') (hf : X.fn x = true ∨ X.env.scope.names.lookup x = some .local := by first | exact .inl rfl | exact .inr rfl | assumption) : wpAny M A (storeName X.env x u) Q E s :=
 Zk8 I hN hi hx r (fun s' I' _ => h s' I') hf
theorem Inv.call' {s' : Shared} {ch : List Addr} (I : Inv X pins σ H s) (ho : s'.os = s.os) (u : Un (frs X.stack) ch H H' s.heap s'.heap) (hok : HOk X.prog X.w H' s'.heap) (hg : AllBare s'.gens)
  (hch : ∀ b ∈ ch, (b ∈ X.ex ∨ X.s₀.heap.objs.size ≤ b) ∧ b ≠ X.env.locals ∧ (∀ x c, X.env.cells.lookup x = some c -> c ≠ b) ∧ ∀ p ∈ X.pn ++ pins, p.1 ≠ b) : Inv X pins σ H' s' := by
 obtain ⟨h', g', d', t', o'⟩ := s'
 have e : o' = s.os := ho
 subst e
 exact I.call (g' := g') (t' := t') (d' := d') u hok hg hch
end
noncomputable abbrev XK := Value -> Option Addr -> Hp -> Prop
noncomputable abbrev St := List (Option V)
noncomputable abbrev VK := V -> Hp -> Prop
noncomputable abbrev TE := St -> Hp -> VK -> Prop
noncomputable abbrev TT := St -> Hp -> (Bool -> Hp -> Prop) -> Prop
noncomputable abbrev TA := St -> Hp -> (List V -> Hp -> Prop) -> Prop
structure Ends where
 nx : St -> Hp -> Prop
 rt : VK
 bk : St -> Hp -> Prop := fun _ _ => False
 ct : St -> Hp -> Prop := fun _ _ => False
noncomputable abbrev TS := Ends -> St -> Hp -> Prop
noncomputable def EP (X : Cx) (pins : List (Addr × Obj)) (σ : St) (Q : VK) (u : Value) (s' : Shared) : Prop := ∃ v H', Inv X pins σ H' s' ∧ Zcn v u ∧ Q v H'
noncomputable def TP (X : Cx) (pins : List (Addr × Obj)) (σ : St) (Q : Bool -> Hp -> Prop) (b : Bool) (s' : Shared) : Prop := ∃ H', Inv X pins σ H' s' ∧ Q b H'
noncomputable def AP (X : Cx) (pins : List (Addr × Obj)) (σ : St) (Q : List V -> Hp -> Prop) (us : List Value) (s' : Shared) : Prop := ∃ vs H', Inv X pins σ H' s' ∧ Za8 vs us ∧ Q vs H'
noncomputable def SP (X : Cx) (pins : List (Addr × Obj)) (D : Ends) (f : Flow) (s' : Shared) : Prop :=
 match f with
 | .next => ∃ σ' H', Inv X pins σ' H' s' ∧ D.nx σ' H'
 | .brk => ∃ σ' H', Inv X pins σ' H' s' ∧ D.bk σ' H'
 | .cont => ∃ σ' H', Inv X pins σ' H' s' ∧ D.ct σ' H'
 | .ret u => ∃ v σ' H', Inv X pins σ' H' s' ∧ Zcn v u ∧ D.rt v H'
noncomputable def PE (X : Cx) (e : Expr) (t : TE) : Prop :=
 ∀ (pins : List (Addr × Obj)) (s : Shared) (σ : St) (H : Hp) (Q : VK), Inv X pins σ H s -> t σ H Q -> wpAny (model X.prog X.w) X.A (eval e X.env) (EP X pins σ Q) X.xe s
noncomputable def PT (X : Cx) (e : Expr) (t : TT) : Prop :=
 ∀ (pins : List (Addr × Obj)) (s : Shared) (σ : St) (H : Hp) (Q : Bool -> Hp -> Prop), Inv X pins σ H s -> t σ H Q -> wpAny (model X.prog X.w) X.A (isTrue e X.env (eval e X.env)) (TP X pins σ Q) X.xe s
noncomputable def PW (X : Cx) (e : Expr) (t : TT) : Prop :=
 ∀ (whole : Sem Value) (pins : List (Addr × Obj)) (s : Shared) (σ : St) (H : Hp) (Q : Bool -> Hp -> Prop), Inv X pins σ H s -> t σ H Q -> wpAny (model X.prog X.w) X.A (isTrue e X.env whole) (TP X pins σ Q) X.xe s
noncomputable def PA (X : Cx) (es : List Expr) (t : TA) : Prop :=
 ∀ (pos : Pos) (pins : List (Addr × Obj)) (s : Shared) (σ : St) (H : Hp) (Q : List V -> Hp -> Prop), Inv X pins σ H s -> t σ H Q -> wpAny (model X.prog X.w) X.A (spliced (backTo pos (starEach es X.env))) (AP X pins σ Q) X.xe s
noncomputable def PS (X : Cx) (st : Stmt) (t : TS) : Prop :=
 ∀ (pins : List (Addr × Obj)) (s : Shared) (σ : St) (H : Hp) (D : Ends), Inv X pins σ H s -> t D σ H -> wpAny (model X.prog X.w) X.A (exec st X.env) (SP X pins D) X.xe s
noncomputable def PSs (X : Cx) (st : List Stmt) (t : TS) : Prop :=
 ∀ (pins : List (Addr × Obj)) (s : Shared) (σ : St) (H : Hp) (D : Ends), Inv X pins σ H s -> t D σ H -> wpAny (model X.prog X.w) X.A (execs st X.env) (SP X pins D) X.xe s
theorem thn {α : Type} {t : Sem α} {Q Q' : α -> Shared -> Prop} {M : Model} {A : Around} {E : Value -> Shared -> Prop} {s : Shared} (h : wpAny M A t Q E s) (hQ : ∀ a s, Q a s -> Q' a s) : wpAny M A t Q' E s := wpAny_mono h hQ fun _ _ x => x
section
variable {X : Cx}
noncomputable def tVar (i : Nat) : TE := fun σ H Q => ∃ v, σ[i]? = some (some v) ∧ Q v H
noncomputable def tC (v : V) : TE := fun _ H Q => Q v H
theorem Yal {i : Nat} {x : Str} {pos : Pos} (hN : X.N[i]? = some x) (hv : Vis X.env.scope x) (hd : (x == ("__debug__" : Str)) = false := by decide) (hcd : (x == ("__classdict__" : Str)) = false := by decide) : PE X (.Name x pos) (tVar i) := by
 intro pins s σ H Q I h
 obtain ⟨v, e, h⟩ := h
 obtain ⟨m, hn, hl⟩ := I.loc
 obtain ⟨u, r, l⟩ := hl i x v hN e hv
 have fin : EP X pins σ Q u s := ⟨v, H, I, r, h⟩
 rcases l with ⟨hk, hm⟩ | ⟨hk, c, hc, hcell⟩
 ·exact wpAny_Name (wpAny_loadName_local I.ok.kind hk hn hm fin) hd
 ·rcases hk with hk | hk
  ·exact wpAny_Name (wpAny_loadName_cell I.ok.kind hk hc hcell fin) hd
  ·exact wpAny_Name (wpAny_loadName_free I.ok.kind hk hc hcell fin hcd) hd
theorem Zuw {i j pos} : PE X (.Constant (.int i) j pos) (tC (.int i)) := fun _ _ _ H _ I h => wpAny_Constant_int ⟨.int i, H, I.tok _, ⟨_, rfl⟩, h⟩
theorem pe_bl {b j pos} : PE X (.Constant (.bool b) j pos) (tC (.bl b)) := fun _ _ _ H _ I h => Constant_bool ⟨.bl b, H, I, rfl, h⟩
theorem Zzd {j pos} : PE X (.Constant .none j pos) (tC .non) := fun _ _ _ H _ I h => Constant_none ⟨.non, H, I, rfl, h⟩
theorem Zu9 {x j pos} : PE X (.Constant (.str x) j pos) (tC (.str x)) := fun _ _ _ H _ I h => Calls.Constant_str ⟨.str x, H, I.tok _, ⟨_, rfl⟩, h⟩
noncomputable def Gl (X : Cx) (x : Str) : Prop := X.env.kindOf x = some .globalImplicit
theorem Zh8 {E : Value -> Shared -> Prop} {pins : List (Addr × Obj)} {s : Shared} {σ : St} {H : Hp} {x : Str} {u : Value} {pos : Pos} {Q : Value -> Shared -> Prop} (I : Inv X pins σ H s) (hg : Gl X x) (hm : X.mg x = some u) (h : Q u s)
  (hd : (x == ("__debug__" : Str)) = false := by decide) : wpAny (model X.prog X.w) X.A (eval (.Name x pos) X.env) Q E s :=
 Calls.Name_function_global I.ok.kind hg (Calls.loadGlobal_global (by rw [I.ok.glob]; exact I.mod.glob.keeps I.bk) hm h) hd
theorem Zhn {E : Value -> Shared -> Prop} {pins : List (Addr × Obj)} {s : Shared} {σ : St} {H : Hp} {x : Str} {u : Value} {pos : Pos} {Q : Value -> Shared -> Prop} (I : Inv X pins σ H s) (hg : Gl X x) (hm : X.mg x = none) (hv : bootBuiltins x = some u) (h : Q u s)
  (hn : x ≠ "__name__" := by decide) (hd : (x == ("__debug__" : Str)) = false := by decide) : wpAny (model X.prog X.w) X.A (eval (.Name x pos) X.env) Q E s := by
 obtain ⟨mb, h1, h2⟩ := I.mod.blt
 exact Calls.Name_function_global I.ok.kind hg (Calls.loadGlobal_builtin (by rw [I.ok.glob]; exact I.mod.glob.keeps I.bk) hm (by rw [I.ok.blt]; exact h1.keeps I.bk) ((h2 x hn).trans hv) h) hd
theorem Zmp {x : Str} {v : V} {u : Value} {pos : Pos} (hg : Gl X x) (hm : X.mg x = some u) (r : Zcn v u) (hd : (x == ("__debug__" : Str)) = false := by decide) : PE X (.Name x pos) (tC v) :=
 fun _ _ _ H _ I h => Zh8 I hg hm ⟨v, H, I, r, h⟩ hd
theorem Zsd {x : Str} {v : V} {u : Value} {pos : Pos} (hg : Gl X x) (hm : X.mg x = none) (hv : bootBuiltins x = some u) (r : Zcn v u) (hn : x ≠ "__name__" := by decide) (hd : (x == ("__debug__" : Str)) = false := by decide) : PE X (.Name x pos) (tC v) :=
 fun _ _ _ H _ I h => Zhn I hg hm hv ⟨v, H, I, r, h⟩ hn hd
variable {a b : Expr} {ta tb : TE} {pos : Pos}
variable {tA tB' : TT} {Zck : List Expr}
noncomputable def tAnd (t u : TT) : TT := fun σ H Q => t σ H fun c H1 => if c = true then u σ H1 Q else Q false H1
noncomputable def tOr (t u : TT) : TT := fun σ H Q => t σ H fun c H1 => if c = true then Q true H1 else u σ H1 Q
noncomputable def tNot (t : TT) : TT := fun σ H Q => t σ H fun c H1 => Q (!c) H1
theorem Zww (ha : PT X a tA) : PW X (.BoolOp .And [a] pos) tA := by
 intro wh pins s σ H Q I h
 refine isTrue_and (thn (ha pins s σ H Q I h) fun c s1 e => ?_)
 cases c with
 | true => exact isTrue_and_nil e
 | false => exact e
theorem Zx9 (ha : PT X a tA) : PW X (.BoolOp .Or [a] pos) tA := by
 intro wh pins s σ H Q I h
 refine isTrue_or (thn (ha pins s σ H Q I h) fun c s1 e => ?_)
 cases c with
 | false => exact isTrue_or_nil e
 | true => exact e
theorem Zz6 (ha : PT X a tA) (hb : PW X (.BoolOp .And (b :: Zck) pos) tB') : PW X (.BoolOp .And (a :: b :: Zck) pos) (tAnd tA tB') := by
 intro wh pins s σ H Q I h
 refine isTrue_and (thn (ha pins s σ H _ I h) fun c s1 zz => ?_)
 obtain ⟨H1, I1, q1⟩ := zz
 cases c with
 | true => exact hb wh pins s1 σ H1 Q I1 q1
 | false => exact ⟨H1, I1, q1⟩
theorem pw_or (ha : PT X a tA) (hb : PW X (.BoolOp .Or (b :: Zck) pos) tB') : PW X (.BoolOp .Or (a :: b :: Zck) pos) (tOr tA tB') := by
 intro wh pins s σ H Q I h
 refine isTrue_or (thn (ha pins s σ H _ I h) fun c s1 zz => ?_)
 obtain ⟨H1, I1, q1⟩ := zz
 cases c with
 | true => exact ⟨H1, I1, q1⟩
 | false => exact hb wh pins s1 σ H1 Q I1 q1
theorem Zz9 (ha : PT X a tA) : PT X (.UnaryOp .Not a pos) (tNot tA) := by
 intro pins s σ H Q I h
 exact isTrue_not (ha pins s σ H (fun c H1 => Q (!c) H1) I h)
noncomputable def tAndV (ta tb : TE) : TE := fun σ H Q => ta σ H fun x H1 => ∃ c, x = .bl c ∧ if c = true then tb σ H1 Q else Q (.bl false) H1
noncomputable def tNotV (ta : TE) : TE := fun σ H Q => ta σ H fun x H1 => ∃ c, x = .bl c ∧ Q (.bl (!c)) H1
theorem Yah {op} {t : TE} (h : PE X a t) : PE X (.BoolOp op [a] pos) t := fun pins s σ H Q I hw => BoolOp_one (h pins s σ H Q I hw)
theorem Zy2 (ha : PE X a ta) (hb : PE X (.BoolOp .And (b :: Zck) pos) tb) : PE X (.BoolOp .And (a :: b :: Zck) pos) (tAndV ta tb) := by
 intro pins s σ H Q I h
 refine BoolOp_and (thn (ha pins s σ H _ I h) fun v s1 zz => ?_)
 obtain ⟨x, H1, I1, r1, q1⟩ := zz
 obtain ⟨c, rfl, q1⟩ := q1
 cases r1
 refine wpAny_truthy_bool ?_
 cases c with
 | true => exact hb pins s1 σ H1 Q I1 q1
 | false => exact ⟨.bl false, H1, I1, rfl, q1⟩
theorem Zy9 (ha : PE X a ta) : PE X (.UnaryOp .Not a pos) (tNotV ta) := by
 intro pins s σ H Q I h
 refine UnaryOp_ (thn (ha pins s σ H _ I h) fun v s1 zz => ?_)
 obtain ⟨x, H1, I1, r1, q1⟩ := zz
 obtain ⟨c, rfl, q1⟩ := q1
 cases r1
 exact not_of (wpAny_truthy_bool ⟨.bl (!c), H1, I1, rfl, q1⟩)
noncomputable def tIf (t : TT) (ta tb : TE) : TE := fun σ H Q => t σ H fun c H1 => if c = true then ta σ H1 Q else tb σ H1 Q
theorem Ztj {c : Expr} (hc : PT X c tA) (ha : PE X a ta) (hb : PE X b tb) : PE X (.IfExp c a b pos) (tIf tA ta tb) := by
 intro pins s σ H Q I h
 refine wpAny_IfExp (thn (hc pins s σ H _ I h) fun d s1 zz => ?_)
 obtain ⟨H1, I1, q1⟩ := zz
 cases d with
 | true => exact ha pins s1 σ H1 Q I1 q1
 | false => exact hb pins s1 σ H1 Q I1 q1
end
noncomputable def SqL (K : PySem.W.Frag) (H : Hp) (a : Addr) (xs : List V) : Prop :=
 Rd H a (.lst xs) ∨
  ∃ (o : Obj) (its : Array Value) (n : Nat), K.lookup a = some o ∧ o.cls = .type "list" ∧ o.dict = none ∧ o.data = .seq its n ∧ its.size ≤ sizeLine ∧ Za8 xs its.toList
noncomputable def SqT (K : PySem.W.Frag) (H : Hp) (a : Addr) (xs : List V) : Prop :=
 Rd H a (.tup xs) ∨
  ∃ (o : Obj) (its : Array Value) (n : Nat), K.lookup a = some o ∧ o.cls = .type "tuple" ∧ o.data = .seq its n ∧ its.size ≤ sizeLine ∧ Za8 xs its.toList ∧ o.dict = none
noncomputable def absV : Value -> Option V
 | .none => some .non
 | .bool b => some (.bl b)
 | .int i _ => some (.int i)
 | .str x _ => some (.str x)
 | .bytes b _ => some (.byt b)
 | .float b _ => some (.flt b)
 | .ref a => some (.ref a)
 | .type n => some (.ty n)
 | _ => none
theorem Zcn.abs {x : V} {u : Value} (r : Zcn x u) : absV u = some x := by
 cases x with
 | non => cases r; rfl
 | bl _ => cases r; rfl
 | int _ => obtain ⟨t, rfl⟩ := r; rfl
 | str _ => obtain ⟨t, rfl⟩ := r; rfl
 | byt _ => obtain ⟨t, rfl⟩ := r; rfl
 | flt _ => obtain ⟨t, rfl⟩ := r; rfl
 | ref _ => cases r; rfl
 | ty _ => cases r; rfl
theorem Zcn.inj {x y : V} {u : Value} (r : Zcn x u) (q : Zcn y u) : x = y := Option.some.inj (r.abs.symm.trans q.abs)
theorem Za8.inj : ∀ {xs ys : List V} {us : List Value}, Za8 xs us -> Za8 ys us -> xs = ys := by
 intro xs ys us h
 induction h generalizing ys with
 | nil => intro h'; cases h'; rfl
 | cons r t ih =>
  intro h'
  cases h' with
  | cons r' t' => rw [r.inj r', ih t']
section
variable {X : Cx} {pins : List (Addr × Obj)} {σ : St} {H : Hp} {s : Shared} {a : Addr} {xs ys : List V}
theorem SqL.of {K : PySem.W.Frag} (h : H a = some (.lst xs)) : SqL K H a xs := .inl (.inl h)
theorem SqT.of {K : PySem.W.Frag} (h : H a = some (.tup xs)) : SqT K H a xs := .inl (.inl h)
theorem Inv.list (I : Inv X pins σ H s) (h : SqL X.K H a xs) : ∃ its : List Value, Za8 xs its ∧ PlainL s.heap a its.toArray ∧ xs.length ≤ sizeLine := by
 rcases h with h | ⟨o, its, n, hk, hc, hd, hs, hz, r⟩
 ·obtain ⟨z, its, n, r, e⟩ := h.ok I.hok
  exact ⟨its, r, ⟨_, n, e, rfl, rfl, rfl⟩, z⟩
 ·refine ⟨its.toList, r, ⟨o, n, I.kIn a o hk, hc, hd, by simpa using hs⟩, ?_⟩
  have e := r.length
  simp only [Array.length_toList] at e
  omega
theorem Inv.tuple (I : Inv X pins σ H s) (h : SqT X.K H a xs) : ∃ its : List Value, Za8 xs its ∧ IsTup s.heap a its.toArray ∧ xs.length ≤ sizeLine := by
 rcases h with h | ⟨o, its, n, hk, hc, hs, hz, r, _⟩
 ·obtain ⟨z, its, r, p⟩ := h.ok I.hok
  exact ⟨its, r, p.tup, z⟩
 ·refine ⟨its.toList, r, ⟨o, I.kIn a o hk, hc, n, by simpa using hs⟩, ?_⟩
  have e := r.length
  simp only [Array.length_toList] at e
  omega
theorem Inv.list_inj (I : Inv X pins σ H s) (h : SqL X.K H a xs) (h' : SqL X.K H a ys) : xs = ys := by
 obtain ⟨its, r, ⟨o, n, e, _, _, d⟩, _⟩ := I.list h
 obtain ⟨its', r', ⟨o', n', e', _, _, d'⟩, _⟩ := I.list h'
 rw [e] at e'; cases e'
 rw [d] at d'
 injection d' with d1 _
 have : its = its' := by simpa using congrArg Array.toList d1
 subst this
 exact r.inj r'
theorem Inv.tuple_inj (I : Inv X pins σ H s) (h : SqT X.K H a xs) (h' : SqT X.K H a ys) : xs = ys := by
 obtain ⟨its, r, ⟨o, e, _, n, d⟩, _⟩ := I.tuple h
 obtain ⟨its', r', ⟨o', e', _, n', d'⟩, _⟩ := I.tuple h'
 rw [e] at e'; cases e'
 rw [d] at d'
 injection d' with d1 _
 have : its = its' := by simpa using congrArg Array.toList d1
 subst this
 exact r.inj r'
end
noncomputable abbrev Cx.wish (X : Cx) (E : Value -> Shared -> Prop) : Cx := { X with xe := E }
noncomputable abbrev Cx.nox (X : Cx) : Cx := X.wish fun _ _ => False
theorem Cx.Ok.wish {X : Cx} (ok : X.Ok) (E : Value -> Shared -> Prop) : (X.wish E).Ok :=
 ⟨ok.mod, ok.kind, ok.glob, ok.blt, ok.above, ok.inj, ok.has, ok.cab, ok.hd, ok.frames, ok.stk, ok.exf, ok.bs, ok.bsz, ok.noex, ok.exfs, ok.funs, ok.frf⟩
theorem Cx.Ok.unwish {X : Cx} {E : Value -> Shared -> Prop} (ok : (X.wish E).Ok) : X.Ok :=
 ⟨ok.mod, ok.kind, ok.glob, ok.blt, ok.above, ok.inj, ok.has, ok.cab, ok.hd, ok.frames, ok.stk, ok.exf, ok.bs, ok.bsz, ok.noex, ok.exfs, ok.funs, ok.frf⟩
section
variable {X : Cx} {pins : List (Addr × Obj)} {σ : St} {H : Hp} {s : Shared} {E : Value -> Shared -> Prop}
theorem Inv.wish (I : Inv X pins σ H s) (E : Value -> Shared -> Prop) : Inv (X.wish E) pins σ H s := ⟨I.ok.wish E, I.os, I.bare, I.base, I.loc, I.cell, I.free, I.freeC, I.pin, I.hok, I.len⟩
theorem Inv.unwish (I : Inv (X.wish E) pins σ H s) : Inv X pins σ H s := ⟨I.ok.unwish, I.os, I.bare, I.base, I.loc, I.cell, I.free, I.freeC, I.pin, I.hok, I.len⟩
theorem SP.unwish {D : Ends} {f : Flow} {s' : Shared} (h : SP (X.wish E) pins D f s') : SP X pins D f s' := by
 cases f with
 | next => obtain ⟨σ', H', I, q⟩ := h; exact ⟨σ', H', I.unwish, q⟩
 | brk => obtain ⟨σ', H', I, q⟩ := h; exact ⟨σ', H', I.unwish, q⟩
 | cont => obtain ⟨σ', H', I, q⟩ := h; exact ⟨σ', H', I.unwish, q⟩
 | ret u => obtain ⟨v, σ', H', I, r, q⟩ := h; exact ⟨v, σ', H', I.unwish, r, q⟩
theorem PT.nox {e : Expr} {t : TT} (h : PT X.nox e t) : PT X e t := fun pins s σ H Q I hw =>
 wpAny_mono (h pins s σ H Q (I.wish _) hw) (fun _ _ ⟨H', I', q⟩ => ⟨H', I'.unwish, q⟩) fun _ _ z => False.elim z
theorem PSs.nox {st : List Stmt} {t : TS} (h : PSs X.nox st t) : PSs X st t := fun pins s σ H D I hw =>
 wpAny_mono (h pins s σ H D (I.wish _) hw) (fun _ _ q => q.unwish) fun _ _ z => False.elim z
end
section
variable {X : Cx} {st : Stmt} {Zck : List Stmt} {t u : TS} {e : Expr} {te : TE} {pos : Pos}
noncomputable def tNext : TS := fun D σ H => D.nx σ H
noncomputable def tSeq (t u : TS) : TS := fun D σ H => t { D with nx := u D } σ H
theorem Zxc : PSs X [] tNext := fun _ _ σ H _ I h => wpAny_execs_nil ⟨σ, H, I, h⟩
theorem Zhb (h1 : PS X st t) (h2 : PSs X Zck u) : PSs X (st :: Zck) (tSeq t u) := by
 intro pins s σ H D I h
 refine wpAny_execs_cons (thn (h1 pins s σ H { D with nx := u D } I h) fun f s1 q => ?_)
 cases f with
 | next =>
  obtain ⟨σ', H', I', q⟩ := q
  exact h2 pins s1 σ' H' D I' q
 | ret v => exact q
 | brk => exact q
 | cont => exact q
theorem Inv.quiet {pins : List (Addr × Obj)} {σ : St} {H : Hp} {s : Shared} (I : Inv X pins σ H s) : interactive X.env = false := by simp [interactive, I.ok.kind]
noncomputable def tDrop (te : TE) : TS := fun D σ H => te σ H fun _ H1 => D.nx σ H1
theorem Zwo (he : PE X e te) (hs : swapsWith e none pos.line X.env = pure false := by rfl) : PS X (.Expr e pos) (tDrop te) := by
 intro pins s σ H D I h
 exact wpAny_Expr_any (thn (he pins s σ H _ I h) fun v s1 ⟨x, H1, I1, r1, q1⟩ => ⟨σ, H1, I1, q1⟩) I.quiet hs
noncomputable def tRet (te : TE) : TS := fun D σ H => te σ H D.rt
theorem Zzm (he : PE X e te) : PS X (.Return (some e) pos) (tRet te) := by
 intro pins s σ H D I h
 exact wpAny_Return_some (thn (he pins s σ H _ I h) fun v s1 ⟨x, H1, I1, r1, q1⟩ => ⟨x, σ, H1, I1, r1, q1⟩)
noncomputable def tIfS (c : TT) (t u : TS) : TS := fun D σ H => c σ H fun b H1 => if b = true then t D σ H1 else u D σ H1
theorem Zzn {c : Expr} {a b : List Stmt} {tc : TT} (hc : PT X c tc) (ha : PSs X a t) (hb : PSs X b u) : PS X (.If c a b pos) (tIfS tc t u) := by
 intro pins s σ H D I h
 refine wpAny_If (thn (hc pins s σ H _ I h) fun d s1 zz => ?_)
 obtain ⟨H1, I1, q1⟩ := zz
 cases d with
 | true => exact ha pins s1 σ H1 D I1 q1
 | false => exact hb pins s1 σ H1 D I1 q1
end
noncomputable abbrev TG := V -> St -> Hp -> (St -> Hp -> Prop) -> Prop
noncomputable abbrev TGs := List V -> St -> Hp -> (St -> Hp -> Prop) -> Prop
noncomputable def PG (X : Cx) (target : Expr) (t : TG) : Prop :=
 ∀ (pins : List (Addr × Obj)) (s : Shared) (σ : St) (H : Hp) (v : V) (u : Value) (Q : St -> Hp -> Prop), Inv X pins σ H s -> Zcn v u -> t v σ H Q →
  wpAny (model X.prog X.w) X.A (assign target X.env u) (fun _ s' => ∃ σ' H', Inv X pins σ' H' s' ∧ Q σ' H') X.xe s
noncomputable def PGs (X : Cx) (ts : List Expr) (t : TGs) : Prop :=
 ∀ (pins : List (Addr × Obj)) (s : Shared) (σ : St) (H : Hp) (vs : List V) (us : List Value) (Q : St -> Hp -> Prop), Inv X pins σ H s -> Za8 vs us -> t vs σ H Q →
  wpAny (model X.prog X.w) X.A (assignInOrder ((assignEach ts X.env).map (·.2)) us) (fun _ s' => ∃ σ' H', Inv X pins σ' H' s' ∧ Q σ' H') X.xe s
noncomputable abbrev TSet := V -> V -> V -> Hp -> (Hp -> Prop) -> Prop
noncomputable def PSet (X : Cx) (t : TSet) : Prop :=
 ∀ (pins : List (Addr × Obj)) (s : Shared) (σ : St) (H : Hp) (o i v : V) (ov iv u : Value) (Q : Hp -> Prop), Inv X pins σ H s -> Zcn o ov -> Zcn i iv -> Zcn v u -> t o i v H Q →
  wpAny (model X.prog X.w) X.A (setItem ov iv u) (fun _ s' => ∃ H', Inv X pins σ H' s' ∧ Q H') X.xe s
section
variable {X : Cx} {pos : Pos}
noncomputable def Zqx (i : Nat) : TG := fun v σ H Q => Q (σ.set i (some v)) H
theorem Zq4 {i : Nat} {x : Str} (hN : X.N.Nodup) (hi : X.N[i]? = some x) (hx : Loc X.env.scope x) (hf : X.fn x = true ∨ X.env.scope.names.lookup x = some .local := by first | exact .inl rfl | exact .inr rfl | assumption) : PG X (.Name x pos) (Zqx i) := by
 intro pins s σ H v u Q I r h
 exact wpAny_assign_Name (Zju I hN hi hx r (fun s' I' => ⟨_, H, I', h⟩) hf)
noncomputable def gNil : TGs := fun vs σ H Q => vs = [] ∧ Q σ H
noncomputable def gCons (t : TG) (u : TGs) : TGs := fun vs σ H Q => ∃ v r, vs = v :: r ∧ t v σ H fun σ' H' => u r σ' H' Q
theorem Zvu : PGs X [] gNil := by
 intro pins s σ H vs us Q I r h
 obtain ⟨e, h⟩ := h
 subst e
 cases r
 exact assignInOrder_nil ⟨σ, H, I, h⟩
theorem Zuc {e : Expr} {es : List Expr} {t : TG} {u : TGs} (h1 : PG X e t) (h2 : PGs X es u)
  (hs : (assignEach (e :: es) X.env).map (·.2) = assign e X.env :: (assignEach es X.env).map (·.2) := by rfl) : PGs X (e :: es) (gCons t u) := by
 intro pins s σ H vs us Q I r h
 obtain ⟨v, vr, e1, h⟩ := h
 subst e1
 cases r with
 | cons r rr =>
  rw [hs]
  refine assignInOrder_cons (thn (h1 pins s σ H _ _ _ I r h) fun _ s1 zz => ?_)
  obtain ⟨σ1, H1, I1, q1⟩ := zz
  exact h2 pins s1 σ1 H1 _ _ Q I1 rr q1
noncomputable def gTup (K : PySem.W.Frag) (n : Nat) (t : TGs) : TG := fun v σ H Q => ∃ a xs, v = .ref a ∧ SqT K H a xs ∧ xs.length = n ∧ t xs σ H Q
theorem Zz3 {es : List Expr} {k : Nat} {t : TGs} {n : Nat} (hc : X.calm = true) (h : PGs X es t)
  (hn : (assignEach es X.env).length = n := by rfl) (hst : (assignEach es X.env).findIdx? (·.1) = none := by rfl) : PG X (.Tuple es k pos) (gTup X.K n t) := by
 intro pins s σ H v u Q I r hw
 obtain ⟨a, xs, e1, hq, hl, hw⟩ := hw
 subst e1
 cases r
 obtain ⟨its, rv, ht, hz⟩ := I.tuple hq
 refine assign_Tuple_tuple (I.ok.hd hc) ht (by simp [hn, ← hl, rv.length]) hst fun h' hx => ?_
 have I1 : Inv X pins σ H { s with heap := h' } := I.kept (t' := s.toks) fun b o e => hx b o (Nat.ne_of_lt (Heap.lt_size e)) e
 exact h pins _ σ H xs _ Q I1 (by simpa using rv) hw
noncomputable def gSub (to ti : TE) (t : TSet) : TG := fun v σ H Q => to σ H fun o H1 => ti σ H1 fun i H2 => t o i v H2 fun H3 => Q σ H3
theorem Zzt {o i : Expr} {to ti : TE} {t : TSet} (ho : PE X o to) (hi : PE X i ti) (hs : PSet X t)
  (ha : ∀ v, assign (.Subscript o i pos) X.env v = (do
   let ov ← holding [v] (eval o X.env)
   let iv ← holding [v, ov] (eval i X.env)
   standAt pos
   holding [v, ov, iv] (setItem ov iv v)
   release [v, ov, iv] []) := by intro _; rfl) : PG X (.Subscript o i pos) (gSub to ti t) := by
 intro pins s σ H v u Q I r h
 rw [ha]
 refine wpAny_bind (wpAny_holding (thn (ho pins s σ H _ I h) fun ov s1 zz => ?_))
 obtain ⟨x, H1, I1, r1, q1⟩ := zz
 refine wpAny_bind (wpAny_holding (thn (hi pins s1 σ H1 _ I1 q1) fun iv s2 zz => ?_))
 obtain ⟨y, H2, I2, r2, q2⟩ := zz
 refine wpAny_bind (wpAny_standAt (wpAny_bind (wpAny_holding (thn (hs pins s2 σ H2 x y v ov iv u _ I2 r1 r2 r q2) fun _ s3 zz => ?_))))
 obtain ⟨H3, I3, q3⟩ := zz
 exact wpAny_release ⟨σ, H3, I3, q3⟩
noncomputable def tAsg (te : TE) (g : TG) : TS := fun D σ H => te σ H fun x H1 => g x σ H1 D.nx
theorem Zzg {tg e : Expr} {te : TE} {g : TG} (he : PE X e te) (hg : PG X tg g) (hs : swapsWithSole [tg] e pos.line X.env = pure false := by rfl) (hw : swappedStores [tg] e X.env = pure none := by rfl)
  (h1 : (assignEach [tg] X.env).map (·.2) = [assign tg X.env] := by rfl) : PS X (.Assign [tg] e pos) (tAsg te g) := by
 intro pins s σ H D I h
 refine wpAny_Assign_stores (thn (he pins s σ H _ I h) fun v s1 ⟨x, H1, I1, r1, q1⟩ => ?_) hs hw
 rw [h1]
 exact thn (hg pins s1 σ H1 x v _ I1 r1 q1) fun _ s2 q => q
theorem Zzl {i : Nat} {x : Str} {e : Expr} {te : TE} {pos' : Pos} (hN : X.N.Nodup) (hi : X.N[i]? = some x) (hx : Loc X.env.scope x) (he : PE X e te) (hs : swapsWith e (some (.Name x pos')) pos.line X.env = pure false := by rfl) (hf : X.fn x = true ∨ X.env.scope.names.lookup x = some .local := by first | exact .inl rfl | exact .inr rfl | assumption) :
  PS X (.Assign [.Name x pos'] e pos) (tAsg te (Zqx i)) := by
 intro pins s σ H D I h
 refine wpAny_Assign_Name (thn (he pins s σ H _ I h) fun v s1 ⟨y, H1, I1, r1, q1⟩ => ?_) hs
 exact Zju I1 hN hi hx r1 (fun s2 I2 => ⟨_, H1, I2, q1⟩) hf
end
structure It where
 go : Nat -> Hp -> Prop
 yld : Nat -> Hp -> V -> Hp -> Prop
 stop : Nat -> Hp -> Prop
noncomputable def Zr2 (X : Cx) (pins : List (Addr × Obj)) (H : Hp) (b : Addr) : Prop :=
 H b = none ∧ b ≠ X.env.locals ∧ b ∉ X.fs ∧ (b ∈ X.ex ∨ X.s₀.heap.objs.size ≤ b) ∧ (∀ x c, X.env.cells.lookup x = some c -> c ≠ b) ∧ ∀ p ∈ X.pn ++ pins, p.1 ≠ b
theorem Inv.fpOk {X : Cx} {pins : List (Addr × Obj)} {σ : St} {H H' : Hp} {s : Shared} {b : Addr} (I : Inv X pins σ H s) (hb : s.heap.objs.size ≤ b) (hn : H' b = none) : Zr2 X pins H' b := by
 refine ⟨hn, Nat.ne_of_gt (Nat.lt_of_lt_of_le I.lt hb), I.nofs hb, .inr (Nat.le_trans I.sz hb), fun x c e z => ?_, fun p hp z => ?_⟩
 ·obtain ⟨v, q⟩ := I.cell x c e
  exact absurd (Nat.lt_of_lt_of_le q.lt (by rw [z]; exact hb)) (Nat.lt_irrefl _)
 ·exact absurd (Nat.lt_of_lt_of_le (Heap.lt_size (I.pin p hp).1) (by rw [z]; exact hb)) (Nat.lt_irrefl _)
structure Turn (P : Program) (w : World) (K : PySem.W.Frag) (tg : Expr) (J : It) (fp : List Addr) (it : Addr) (tn : Nat -> Heap -> Prop) : Prop where
 mem : it ∈ fp
 obj : ∀ i h, tn i h -> ∀ b ∈ fp, ∃ o, h.get? b = some o ∧ ∀ v, o.data ≠ .cell v
 keep : ∀ i h h', tn i h -> (∀ b ∈ fp, ∀ o, h.get? b = some o -> h'.get? b = some o) -> tn i h'
 item : ∀ (X : Cx), X.prog = P -> X.w = w -> X.K = K -> X.calm = true -> ∀ (i : Nat) (pins : List (Addr × Obj)) (s : Shared) (σ : St) (H : Hp) (E : Value -> Shared -> Prop), Inv X pins σ H s -> (∀ b ∈ fp, Zr2 X pins H b) -> tn i s.heap -> J.go i H →
  wpAny (model P w) X.A (pyNext (.ref it)) (fun r s1 => ∃ u, r = some u ∧
   wpAny (model P w) X.A (letOwnedTupleGo tg (.ref it) u) (fun _ s2 => ∃ x H', Inv X pins σ H' s2 ∧ Zcn x u ∧ J.yld i H x H' ∧ tn (i + 1) s2.heap ∧ ∀ b ∈ fp, H' b = none) E s1) E s
 done : ∀ (X : Cx), X.prog = P -> X.w = w -> X.K = K -> X.calm = true -> ∀ (i : Nat) (pins : List (Addr × Obj)) (s : Shared) (σ : St) (H : Hp) (E : Value -> Shared -> Prop), Inv X pins σ H s -> (∀ b ∈ fp, Zr2 X pins H b) -> tn i s.heap -> J.stop i H →
  wpAny (model P w) X.A (pyNext (.ref it)) (fun r s1 => r = none ∧ Inv X pins σ H s1) E s
 self : ∀ (A : Around) (i : Nat) (s : Shared) (Q : Value -> Shared -> Prop) (E : Value -> Shared -> Prop), tn i s.heap -> Q (.ref it) s -> wpAny (model P w) A (pyIter (.ref it)) Q E s
noncomputable abbrev TI := St -> Hp -> (It -> Hp -> Prop) -> Prop
noncomputable def PIE (X : Cx) (pins : List (Addr × Obj)) (σ : St) (tg : Expr) (R : It -> Hp -> Prop) (itv : Value) (s2 : Shared) : Prop :=
 ∃ (it : Addr) (fp : List Addr) (tn : Nat -> Heap -> Prop) (J : It) (H' : Hp), itv = .ref it ∧ Inv X pins σ H' s2 ∧ Turn X.prog X.w X.K tg J fp it tn ∧ tn 0 s2.heap ∧ (∀ b ∈ fp, Zr2 X pins H' b) ∧ R J H'
noncomputable def PI (X : Cx) (tg iter : Expr) (wi : TI) : Prop :=
 ∀ (pins : List (Addr × Obj)) (s : Shared) (σ : St) (H : Hp) (R : It -> Hp -> Prop), Inv X pins σ H s -> wi σ H R →
  wpAny (model X.prog X.w) X.A (eval iter X.env) (fun v s1 => wpAny (model X.prog X.w) X.A (pyIter v) (PIE X pins σ tg R) X.xe s1) X.xe s
theorem Zsh {M : Model} {A : Around} {E : Value -> Shared -> Prop} {s : Shared} {tg : Expr} {it : Addr} {u : Value} {o : Obj} {n : String} {vs : Array Value} {Q : Unit -> Shared -> Prop} (ho : s.heap.get? it = some o) (hc : o.cls = .type n) (hd : o.data = .fields vs)
  (hn : ["enumerate", "zip", "dict_itemiterator", "dict_reverseitemiterator", "odict_iterator", "itertools.zip_longest", "itertools.pairwise"].contains n = false) (hQ : Q () s) : wpAny M A (letOwnedTupleGo tg (.ref it) u) Q E s := by
 unfold letOwnedTupleGo
 cases tg <;> first
  | exact wpAny_pure hQ
  | (cases u <;> first
    | exact wpAny_pure hQ
    | (refine wpAny_bind (wpAny_load ho ?_)
       rw [hc, hd]
       show wpAny M A (if (["enumerate", "zip", "dict_itemiterator", "dict_reverseitemiterator", "odict_iterator", "itertools.zip_longest", "itertools.pairwise"].contains n && vs[0]? == some (rawInt _)) = true then _ else _) Q E s
       rw [if_neg (by intro h; rw [hn, Bool.false_and] at h; cases h)]
       exact wpAny_pure hQ))
noncomputable def Itl (K : PySem.W.Frag) (a : Addr) : It :=
 ⟨fun i H => ∃ xs x, SqL K H a xs ∧ xs[i]? = some x, fun i H x H' => H' = H ∧ ∀ xs, SqL K H a xs -> xs[i]? = some x, fun i H => ∃ xs, SqL K H a xs ∧ xs.length ≤ i⟩
noncomputable def Itt (K : PySem.W.Frag) (a : Addr) : It :=
 ⟨fun i H => ∃ xs x, SqT K H a xs ∧ xs[i]? = some x, fun i H x H' => H' = H ∧ ∀ xs, SqT K H a xs -> xs[i]? = some x, fun i H => ∃ xs, SqT K H a xs ∧ xs.length ≤ i⟩
noncomputable def Itr (lo : Int) (n : Nat) : It := ⟨fun i _ => i < n, fun i H x H' => H' = H ∧ x = .int (lo + i), fun i _ => n ≤ i⟩
theorem Zqa {P : Program} {w : World} {K : PySem.W.Frag} {tg : Expr} (a it : Addr) : Turn P w K tg (Itl K a) [it] it (fun i h => h.IsListIter it a i) where
 mem := by simp
 obj := fun i h st b hb => by
  have e : b = it := by simpa using hb
  subst e
  obtain ⟨o, e, c, d⟩ := st
  exact ⟨o, e, fun v z => by rw [d] at z; cases z⟩
 keep := fun i h h' st k => st.at fun o e => k it (by simp) o e
 item := by
  intro X hP hw hK hc i pins s σ H E I hf st hg
  subst hP hw hK
  obtain ⟨xs, x, hq, hx⟩ := hg
  obtain ⟨its, rv, p, hz⟩ := I.list hq
  obtain ⟨u, hu, ru⟩ := rv.get hx
  obtain ⟨f0, f1, f2, f3, f4, f5⟩ := hf it (by simp)
  refine wpAny_pyNext_list_item st p.isList (x := u) (by simpa using hu) fun h' st' sb => ?_
  have I1 : Inv X pins σ H { s with heap := h' } := I.turned (t' := s.toks) (fun b o hb e => (sb.2 b hb).trans e) f0 f1 f3 f4 f5
  obtain ⟨o, e, c, d⟩ := id st'
  exact ⟨u, rfl, Zsh (s := { s with heap := h' }) e c d (by decide) ⟨x, H, I1, ru, ⟨rfl, fun ys hy => by rw [I.list_inj hy hq]; exact hx⟩, st', fun b hb => (hf b hb).1⟩⟩
 done := by
  intro X hP hw hK hc i pins s σ H E I hf st hg
  subst hP hw hK
  obtain ⟨xs, hq, hx⟩ := hg
  obtain ⟨its, rv, p, hz⟩ := I.list hq
  obtain ⟨f0, f1, f2, f3, f4, f5⟩ := hf it (by simp)
  have hl := rv.length
  exact wpAny_pyNext_list_end (I.ok.hd hc) st p.isList (by simp; omega) fun h' eb => ⟨rfl, I.turned (t' := s.toks) (fun b o hb e => eb b o hb e) f0 f1 f3 f4 f5⟩
 self := fun _ _ _ _ _ st h => wpAny_pyIter_listiter st h
theorem Zoe {P : Program} {w : World} {K : PySem.W.Frag} {tg : Expr} (a it : Addr) : Turn P w K tg (Itt K a) [it] it (fun i h => h.IsTupleIter it a i) where
 mem := by simp
 obj := fun i h st b hb => by
  have e : b = it := by simpa using hb
  subst e
  obtain ⟨o, e, c, d⟩ := st
  exact ⟨o, e, fun v z => by rw [d] at z; cases z⟩
 keep := fun i h h' st k => st.at fun o e => k it (by simp) o e
 item := by
  intro X hP hw hK hc i pins s σ H E I hf st hg
  subst hP hw hK
  obtain ⟨xs, x, hq, hx⟩ := hg
  obtain ⟨its, rv, p, hz⟩ := I.tuple hq
  obtain ⟨u, hu, ru⟩ := rv.get hx
  obtain ⟨f0, f1, f2, f3, f4, f5⟩ := hf it (by simp)
  refine wpAny_pyNext_tuple_item st (show s.heap.IsTuple a its.toArray from p) (x := u) (by simpa using hu) fun h' st' sb => ?_
  have I1 : Inv X pins σ H { s with heap := h' } := I.turned (t' := s.toks) (fun b o hb e => (sb.2 b hb).trans e) f0 f1 f3 f4 f5
  obtain ⟨o, e, c, d⟩ := id st'
  exact ⟨u, rfl, Zsh (s := { s with heap := h' }) e c d (by decide) ⟨x, H, I1, ru, ⟨rfl, fun ys hy => by rw [I.tuple_inj hy hq]; exact hx⟩, st', fun b hb => (hf b hb).1⟩⟩
 done := by
  intro X hP hw hK hc i pins s σ H E I hf st hg
  subst hP hw hK
  obtain ⟨xs, hq, hx⟩ := hg
  obtain ⟨its, rv, p, hz⟩ := I.tuple hq
  obtain ⟨f0, f1, f2, f3, f4, f5⟩ := hf it (by simp)
  have hl := rv.length
  exact wpAny_pyNext_tuple_end (I.ok.hd hc) st (show s.heap.IsTuple a its.toArray from p) (by simp; omega) fun h' eb => ⟨rfl, I.turned (t' := s.toks) (fun b o hb e => eb b o hb e) f0 f1 f3 f4 f5⟩
 self := fun _ _ _ _ _ st h => wpAny_pyIter_tupleiter st h
theorem Zo0 {P : Program} {w : World} {K : PySem.W.Frag} {tg : Expr} (it : Addr) (lo : Int) (n : Nat) : Turn P w K tg (Itr lo n) [it] it (fun i h => IsRangeIter h it (lo + (i : Nat) * 1) ((n : Int) - (i : Nat)) 1) where
 mem := by simp
 obj := fun i h st b hb => by
  have e : b = it := by simpa using hb
  subst e
  exact ⟨_, st, fun v z => by
   have z' : Data.fields _ = Data.cell v := z
   cases z'⟩
 keep := fun i h h' st k => k it (by simp) _ st
 item := by
  intro X hP hw hK hc i pins s σ H E I hf st hg
  subst hP hw hK
  obtain ⟨f0, f1, f2, f3, f4, f5⟩ := hf it (by simp)
  have W := Walks.range (prog := X.prog) (w := X.w) (I.ok.hd hc) it lo 1 n
  refine W.item i s _ _ hg st fun v h' tk hv st' kk => ?_
  obtain ⟨t, rfl⟩ := hv
  have I1 : Inv X pins σ H { s with heap := h', toks := tk } := I.turned (fun b o hb e => kk b o (by simpa using hb) e) f0 f1 f3 f4 f5
  refine ⟨_, rfl, Zsh (s := { s with heap := h', toks := tk }) (n := "range_iterator") st' rfl rfl (by decide) ⟨.int (lo + i), H, I1, ⟨t, ?_⟩, ⟨rfl, rfl⟩, st', fun b hb => (hf b hb).1⟩⟩
  rw [Int.mul_one]
 done := by
  intro X hP hw hK hc i pins s σ H E I hf st hg
  subst hP hw hK
  obtain ⟨f0, f1, f2, f3, f4, f5⟩ := hf it (by simp)
  exact wpAny_pyNext_range_end (I.ok.hd hc) st (by have : n ≤ i := hg; omega) fun h' eb => ⟨rfl, I.turned (t' := s.toks) (fun b o hb e => eb b o hb e) f0 f1 f3 f4 f5⟩
 self := fun _ _ _ _ _ st h => wpAny_pyIter_rangeiter st h
section
variable {X : Cx} {tg : Expr}
theorem Zs0 {pins : List (Addr × Obj)} {σ : St} {H : Hp} {s : Shared} {R : It -> Hp -> Prop} {E : Value -> Shared -> Prop} {lo hi : Int} {t u v : Tok} {tk : Nat} (I : Inv X pins σ H s) (h1 : -(2 ^ 62) ≤ lo) (h2 : lo < 2 ^ 62) (h3 : -(2 ^ 62) ≤ hi) (h4 : hi < 2 ^ 62)
  (q : R (Itr lo (hi - lo).toNat) H) : wpAny (model X.prog X.w) X.A (pyIter (.ref s.heap.objs.size)) (PIE X pins σ tg R) E { s with heap := s.heap.push { cls := .type "range", data := .fields #[.int lo t, .int hi u, .int 1 v] }, toks := tk } := by
 refine wpAny_pyIter_range (IsRange.new ..) (small_one h1 h2 h3 h4) ?_
 have I1 : Inv X pins σ H { s with heap := s.heap.push { cls := .type "range", data := .fields #[.int lo t, .int hi u, .int 1 v] }, toks := tk } := I.kept fun b o e => Heap.get?_push_of_some _ e
 refine ⟨(s.heap.push { cls := .type "range", data := .fields #[.int lo t, .int hi u, .int 1 v] }).objs.size, [(s.heap.push { cls := .type "range", data := .fields #[.int lo t, .int hi u, .int 1 v] }).objs.size], _, _, H, rfl,
  I1.kept (t' := tk) fun b o e => Heap.get?_push_of_some _ e, Zo0 _ lo (hi - lo).toNat, ?_, fun b hb => ?_, q⟩
 ·have e1 : lo + ((0 : Nat) : Int) * 1 = lo := by simp
  have e2 : (((hi - lo).toNat : Nat) : Int) - ((0 : Nat) : Int) = Builtin.Range.rangeSize lo hi 1 := by rw [rangeSize_one]; split <;> omega
  show IsRangeIter _ _ (lo + ((0 : Nat) : Int) * 1) ((((hi - lo).toNat : Nat) : Int) - ((0 : Nat) : Int)) 1
  rw [e1, e2]
  exact Heap.get?_push_size _ rfl
 ·have e : b = (s.heap.push { cls := .type "range", data := .fields #[.int lo t, .int hi u, .int 1 v] }).objs.size := by simpa using hb
  subst e
  exact I1.fpOk (Nat.le_refl _) (I1.hok.fresh (Nat.le_refl _))
noncomputable def iRng1 (ta : TA) : TI := fun σ H R => ta σ H fun vs H1 => ∃ j : Int, vs = [.int j] ∧ -(2 ^ 62) ≤ j ∧ j < 2 ^ 62 ∧ R (Itr 0 j.toNat) H1
theorem Zr6 {a : Expr} {ta : TA} {p pos : Pos} (hg : Gl X "range") (hm : X.mg "range" = none) (ha : PA X [a] ta) (hs : starEach [a] X.env = [(false, eval a X.env)] := by rfl) : PI X tg (.Call (.Name "range" p) [a] [] pos) (iRng1 ta) := by
 intro pins s σ H R I h
 refine Call_ (Zhn I hg hm boot_range (PyProof.Rows.callWith_type1 (thn (ha pos pins s σ H _ I h) fun us s1 ⟨vs, H1, I1, r1, q1⟩ => ?_) hs rfl))
 obtain ⟨j, e, q1, q2, q⟩ := q1
 subst e
 cases r1 with
 | cons r rr =>
  cases rr
  obtain ⟨t, rfl⟩ := r
  exact call_range_1 (Zs0 I1 (by omega) (by omega) q1 q2 (by simpa using q))
noncomputable def tFor (wi : TI) (g : TG) (tb : TS) : TS := fun D σ H => wi σ H fun J H1 => ∃ W : Nat -> Nat -> St -> Hp -> Prop, (∃ m, W 0 m σ H1) ∧ ∀ i m σ H, W i m σ H →
 (J.stop i H ∧ D.nx σ H) ∨ (J.go i H ∧ ∃ N : St -> Hp -> Prop, (∀ σ' H', N σ' H' -> ∃ m', m' < m ∧ W (i + 1) m' σ' H') ∧ ∀ x H', J.yld i H x H' -> g x σ H' fun σ2 H2 => tb { D with nx := N, ct := N, bk := D.nx } σ2 H2)
noncomputable def Zl0 (fp : List Addr) (h : Heap) : List (Addr × Obj) := fp.filterMap fun b => (h.get? b).map fun o => (b, o)
theorem Zer {fp : List Addr} {h : Heap} {b : Addr} {o : Obj} (hb : b ∈ fp) (e : h.get? b = some o) : (b, o) ∈ Zl0 fp h := List.mem_filterMap.mpr ⟨b, hb, by rw [e]; rfl⟩
theorem Zrf {fp : List Addr} {h : Heap} {p : Addr × Obj} (hp : p ∈ Zl0 fp h) : p.1 ∈ fp ∧ h.get? p.1 = some p.2 := by
 obtain ⟨b, hb, e⟩ := List.mem_filterMap.mp hp
 cases q : h.get? b with
 | none => rw [q] at e; cases e
 | some o =>
  rw [q] at e
  have e' : (b, o) = p := Option.some.inj e
  subst e'
  exact ⟨hb, q⟩
theorem Inv.pinned {pins : List (Addr × Obj)} {σ : St} {H : Hp} {s : Shared} {fp : List Addr} (I : Inv X pins σ H s) (hf : ∀ b ∈ fp, Zr2 X pins H b) (ho : ∀ b ∈ fp, ∃ o, s.heap.get? b = some o ∧ ∀ v, o.data ≠ .cell v) : Inv X (pins ++ Zl0 fp s.heap) σ H s :=
 I.pins_of fun p hp => (List.mem_append.mp hp).elim (fun z => I.pin p (List.mem_append_right _ z)) fun z => by
  obtain ⟨hb, e⟩ := Zrf z
  obtain ⟨f0, f1, f2, _⟩ := hf p.1 hb
  obtain ⟨o, e', d⟩ := ho p.1 hb
  rw [e] at e'; cases e'
  exact ⟨e, f0, f1, f2, d⟩
theorem Inv.unpinned {pins pl : List (Addr × Obj)} {σ : St} {H : Hp} {s : Shared} (I : Inv X (pins ++ pl) σ H s) : Inv X pins σ H s := I.pins_of fun p hp => I.pin p (List.mem_append_right _ (List.mem_append_left _ hp))
theorem Yaj {iter : Expr} {body : List Stmt} {wi : TI} {g : TG} {tb : TS} {pos : Pos} (hp : PassesOwn (model X.prog X.w) X.A X.env X.xe) (hc : X.calm = true) (hi : PI X tg iter wi) (hg : PG X tg g) (hb : PSs X body tb)
  (hs : ∀ x, foldedSetIterable iter X.env x = pure x := by intro _; rfl) : PS X (.For tg iter body [] pos) (tFor wi g tb) := by
 intro pins s σ H D I h
 refine wpAny_For (thn (hi pins s σ H _ I h) fun v s1 h1 => thn h1 fun itv s2 h2 => ?_) hs
 obtain ⟨it, fp, tn, J, H2, e, I2, T, st2, f2, W, ⟨m0, w0⟩, turn⟩ := h2
 subst e
 -- what stays true of the iterator's objects through the loop
 have stat : ∀ {H' : Hp}, (∀ b ∈ fp, H' b = none) -> ∀ b ∈ fp, Zr2 X pins H' b := fun hn b hb => ⟨hn b hb, (f2 b hb).2⟩
 refine codeAny_forLoop_any (fun n s' => ∃ i σ' H', Inv X pins σ' H' s' ∧ tn i s'.heap ∧ (∀ b ∈ fp, H' b = none) ∧ W i n σ' H') ?_ m0 ⟨0, σ, H2, I2, st2, fun b hb => (f2 b hb).1, w0⟩
 rintro n s3 ⟨i, σ3, H3, I3, st3, fr3, w3⟩
 rcases turn i n σ3 H3 w3 with ⟨stop, qn⟩ | ⟨go, N, hN, step⟩
 ·refine wpAny_passesOwn hp (thn (T.done X rfl rfl rfl hc i pins s3 σ3 H3 X.xe I3 (stat fr3) st3 stop) fun r s4 zz => ?_)
  obtain ⟨hr, I4⟩ := zz
  subst hr
  exact wpAny_execs_nil ⟨σ3, H3, I4, qn⟩
 ·refine wpAny_passesOwn hp (thn (T.item X rfl rfl rfl hc i pins s3 σ3 H3 X.xe I3 (stat fr3) st3 go) fun r s4 zz => ?_)
  obtain ⟨u, hr, h4⟩ := zz
  subst hr
  refine wpAny_passesOwn hp (thn h4 fun _ s5 zz => ?_)
  obtain ⟨x, H5, I5, r5, y5, st5, fr5⟩ := zz
  have I5' := I5.pinned (stat fr5) (T.obj _ _ st5)
  refine wpAny_passesOwn hp (thn (hg _ s5 σ3 H5 x u _ I5' r5 (step x H5 y5)) fun _ s6 zz => ?_)
  obtain ⟨σ6, H6, I6, q6⟩ := zz
  refine wpAny_passesOwn hp (thn (hb _ s6 σ6 H6 _ I6 q6) fun f s7 q7 => ?_)
  have again : ∀ {σ7 : St} {H7 : Hp}, Inv X (pins ++ Zl0 fp s5.heap) σ7 H7 s7 -> N σ7 H7 -> ∃ m, m < n ∧ ∃ i σ' H', Inv X pins σ' H' s7 ∧ tn i s7.heap ∧ (∀ b ∈ fp, H' b = none) ∧ W i m σ' H' := fun {σ7 H7} I7 n7 => by
   obtain ⟨m', hm, w7⟩ := hN σ7 H7 n7
   refine ⟨m', hm, i + 1, σ7, H7, I7.unpinned, T.keep _ _ _ st5 fun b hb o e => (I7.pin (b, o) (List.mem_append_right _ (List.mem_append_right _ (Zer hb e)))).1, fun b hb => ?_, w7⟩
   obtain ⟨o, e, d⟩ := T.obj _ _ st5 b hb
   exact (I7.pin (b, o) (List.mem_append_right _ (List.mem_append_right _ (Zer hb e)))).2.1
  cases f with
  | next => obtain ⟨σ7, H7, I7, n7⟩ := q7; exact again I7 n7
  | cont => obtain ⟨σ7, H7, I7, n7⟩ := q7; exact again I7 n7
  | brk => obtain ⟨σ7, H7, I7, q7⟩ := q7; exact ⟨σ7, H7, I7.unpinned, q7⟩
  | ret v => obtain ⟨x7, σ7, H7, I7, r7, q7⟩ := q7; exact ⟨x7, σ7, H7, I7.unpinned, r7, q7⟩
end
noncomputable abbrev R2 := V -> V -> Hp -> VK -> Prop
noncomputable def OpR (X : Cx) (f : Value -> Value -> Sem Value) (r : R2) : Prop :=
 ∀ (pins : List (Addr × Obj)) (s : Shared) (σ : St) (H : Hp) (x y : V) (v u : Value) (Q : VK), Inv X pins σ H s -> Zcn x v -> Zcn y u -> r x y H Q →
  wpAny (model X.prog X.w) X.A (f v u) (EP X pins σ Q) X.xe s
noncomputable def UnR (X : Cx) (f : Value -> Sem Value) (r : V -> Hp -> VK -> Prop) : Prop :=
 ∀ (pins : List (Addr × Obj)) (s : Shared) (σ : St) (H : Hp) (x : V) (v : Value) (Q : VK), Inv X pins σ H s -> Zcn x v -> r x H Q →
  wpAny (model X.prog X.w) X.A (f v) (EP X pins σ Q) X.xe s
noncomputable def Zgx (X : Cx) (f : Value) (r : List V -> Hp -> VK -> Prop) : Prop :=
 ∀ (pins : List (Addr × Obj)) (s : Shared) (σ : St) (H : Hp) (xs : List V) (us : List Value) (Q : VK), Inv X pins σ H s -> Za8 xs us -> r xs H Q →
  wpAny (model X.prog X.w) X.A (call f us) (EP X pins σ Q) X.xe s
noncomputable def TruR (X : Cx) (r : V -> Hp -> (Bool -> Hp -> Prop) -> Prop) : Prop :=
 ∀ (pins : List (Addr × Obj)) (s : Shared) (σ : St) (H : Hp) (x : V) (v : Value) (Q : Bool -> Hp -> Prop), Inv X pins σ H s -> Zcn x v -> r x H Q →
  wpAny (model X.prog X.w) X.A (truthy v) (TP X pins σ Q) X.xe s
noncomputable def tOp (r : R2) (ta tb : TE) : TE := fun σ H Q => ta σ H fun x H1 => tb σ H1 fun y H2 => r x y H2 Q
noncomputable def tUn (r : V -> Hp -> VK -> Prop) (ta : TE) : TE := fun σ H Q => ta σ H fun x H1 => r x H1 Q
noncomputable def rI (C : Int -> Int -> Prop) (g : Int -> Int -> V) : R2 := fun x y H Q => ∃ i j, x = .int i ∧ y = .int j ∧ C i j ∧ Q (g i j) H
noncomputable def rI0 (g : Int -> Int -> V) : R2 := fun x y H Q => ∃ i j, x = .int i ∧ y = .int j ∧ Q (g i j) H
noncomputable def rU (g : Int -> V) : V -> Hp -> VK -> Prop := fun x H Q => ∃ i, x = .int i ∧ Q (g i) H
section
variable {X : Cx} {a b c : Expr} {ta tb tc : TE} {pos : Pos}
theorem binT (ha : PE X a ta) (hb : PE X b tb) {pins : List (Addr × Obj)} {s : Shared} {σ : St} {H : Hp} {R : V -> V -> Hp -> Prop} (I : Inv X pins σ H s)
  (h : ta σ H fun x H1 => tb σ H1 fun y H2 => R x y H2) {Q : Value -> Shared -> Prop} {f : Value -> Value -> Sem Value}
  (hf : ∀ v u s2 x y H2, Inv X pins σ H2 s2 -> Zcn x v -> Zcn y u -> R x y H2 -> wpAny (model X.prog X.w) X.A (f v u) Q X.xe s2) :
  wpAny (model X.prog X.w) X.A (eval a X.env) (fun v s₁ => wpAny (model X.prog X.w) X.A (eval b X.env) (fun u s₂ => wpAny (model X.prog X.w) X.A (f v u) Q X.xe s₂) X.xe s₁) X.xe s := by
 refine thn (ha pins s σ H _ I h) fun v s1 zz => ?_
 obtain ⟨x, H1, I1, r1, q1⟩ := zz
 refine thn (hb pins s1 σ H1 _ I1 q1) fun u s2 zz => ?_
 obtain ⟨y, H2, I2, r2, q2⟩ := zz
 exact hf v u s2 x y H2 I2 r1 r2 q2
theorem pe_op {op : Operator} {r : R2} (ho : OpR X (binaryOp op) r) (ha : PE X a ta) (hb : PE X b tb) : PE X (.BinOp a op b pos) (tOp r ta tb) := by
 intro pins s σ H Q I h
 exact wpAny_BinOp (binT ha hb I h fun v u s2 x y H2 I2 rx ry q => ho pins s2 σ H2 x y v u Q I2 rx ry q)
theorem pe_un {op : UnaryOp} {r : V -> Hp -> VK -> Prop} (ho : UnR X (unaryOp op) r) (ha : PE X a ta) : PE X (.UnaryOp op a pos) (tUn r ta) := by
 intro pins s σ H Q I h
 exact UnaryOp_ (thn (ha pins s σ H _ I h) fun v s1 ⟨x, H1, I1, r1, q1⟩ => ho pins s1 σ H1 x v Q I1 r1 q1)
theorem opI {f : Value -> Value -> Sem Value} {C : Int -> Int -> Prop} {g : Int -> Int -> Int}
  (rule : ∀ (i j : Int) (t u : Tok) (s : Shared) (Q : Value -> Shared -> Prop) (E : Value -> Shared -> Prop), C i j -> Q (.int (g i j) s.toks) { s with toks := s.toks + 1 } -> wpAny (model X.prog X.w) X.A (f (.int i t) (.int j u)) Q E s) :
  OpR X f (rI C fun i j => .int (g i j)) := by
 intro pins s σ H x y v u Q I rx ry h
 obtain ⟨i, j, rfl, rfl, hc, q⟩ := h
 obtain ⟨t, rfl⟩ := rx
 obtain ⟨t', rfl⟩ := ry
 exact rule i j t t' s _ _ hc ⟨.int (g i j), H, I.tok _, ⟨_, rfl⟩, q⟩
theorem opI0 {f : Value -> Value -> Sem Value} {g : Int -> Int -> Int}
  (rule : ∀ (i j : Int) (t u : Tok) (s : Shared) (Q : Value -> Shared -> Prop) (E : Value -> Shared -> Prop), Q (.int (g i j) s.toks) { s with toks := s.toks + 1 } -> wpAny (model X.prog X.w) X.A (f (.int i t) (.int j u)) Q E s) :
  OpR X f (rI0 fun i j => .int (g i j)) := by
 intro pins s σ H x y v u Q I rx ry h
 obtain ⟨i, j, rfl, rfl, q⟩ := h
 obtain ⟨t, rfl⟩ := rx
 obtain ⟨t', rfl⟩ := ry
 exact rule i j t t' s _ _ ⟨.int (g i j), H, I.tok _, ⟨_, rfl⟩, q⟩
theorem opB0 {f : Value -> Value -> Sem Value} {g : Int -> Int -> Bool}
  (rule : ∀ (i j : Int) (t u : Tok) (s : Shared) (Q : Value -> Shared -> Prop) (E : Value -> Shared -> Prop), Q (.bool (g i j)) s -> wpAny (model X.prog X.w) X.A (f (.int i t) (.int j u)) Q E s) :
  OpR X f (rI0 fun i j => .bl (g i j)) := by
 intro pins s σ H x y v u Q I rx ry h
 obtain ⟨i, j, rfl, rfl, q⟩ := h
 obtain ⟨t, rfl⟩ := rx
 obtain ⟨t', rfl⟩ := ry
 exact rule i j t t' s _ _ ⟨.bl (g i j), H, I, rfl, q⟩
noncomputable def Yab (i j : Int) : Prop := 0 < j ∧ j < 1073741824
noncomputable def Yaf (i j : Int) : Prop := 0 ≤ j ∧ j ≤ 1000000 ∧ i.natAbs < 2 ^ 64
noncomputable def Zvg (i j : Int) : Prop := (-(2 ^ 64) < i ∧ i < 2 ^ 64) ∨ (-(2 ^ 64) < j ∧ j < 2 ^ 64)
theorem Zvg.ok {i j : Int} (h : Zvg i j) : IntMulOk i j := by
 rcases h with ⟨h1, h2⟩ | ⟨h1, h2⟩
 ·exact .of_left (intBits_le_64 h1 h2)
 ·exact .of_right (intBits_le_64 h1 h2)
theorem Zz0 : OpR X (binaryOp .Add) (rI0 fun i j => .int (i + j)) := opI0 fun _ _ _ _ _ _ _ q => add_int q
theorem Zz8 : OpR X (binaryOp .Sub) (rI0 fun i j => .int (i - j)) := opI0 fun _ _ _ _ _ _ _ q => sub_int q
theorem Zyx : OpR X (binaryOp .Mult) (rI Zvg fun i j => .int (i * j)) := opI fun _ _ _ _ _ _ _ hc q => mul_int q hc.ok
theorem Zxn : OpR X (binaryOp .FloorDiv) (rI Yab fun i j => .int (i / j)) := opI fun i j _ _ _ _ _ hc q => by
 have h1 : (0 : Int) < j := hc.1
 have h2 : j < 1073741824 := hc.2
 exact floordiv_int (by omega) (by rw [Int.fdiv_eq_ediv_of_nonneg i (by omega)]; exact q) (.inl (PyProof.noPylong_small (by omega)))
theorem Zy1 : OpR X (binaryOp .Mod) (rI (fun _ j => 0 < j) fun i j => .int (i % j)) := opI fun i j _ _ _ _ _ hc q => by
 have h1 : (0 : Int) < j := hc
 exact mod_int' (by omega) (by rw [Int.fmod_eq_emod_of_nonneg i (by omega)]; exact q)
theorem Zzy : OpR X (binaryOp .Pow) (rI Yaf fun i j => .int (i ^ j.toNat)) := opI fun _ _ _ _ _ _ _ hc q => pow_int_small hc.1 hc.2.1 hc.2.2 q
theorem unI {f : Value -> Sem Value} {g : Int -> Int}
  (rule : ∀ (i : Int) (t : Tok) (s : Shared) (Q : Value -> Shared -> Prop) (E : Value -> Shared -> Prop), Q (.int (g i) s.toks) { s with toks := s.toks + 1 } -> wpAny (model X.prog X.w) X.A (f (.int i t)) Q E s) :
  UnR X f (rU fun i => .int (g i)) := by
 intro pins s σ H x v Q I rx h
 obtain ⟨i, rfl, q⟩ := h
 obtain ⟨t, rfl⟩ := rx
 exact rule i t s _ _ ⟨.int (g i), H, I.tok _, ⟨_, rfl⟩, q⟩
theorem Yar : UnR X (unaryOp .USub) (rU fun i => .int (-i)) := unI fun _ _ _ _ _ q => neg_int q
end
section
variable {X : Cx} {a b c : Expr} {ta tb tc : TE} {pos : Pos}
theorem op_lt : OpR X (compareOp .Lt) (rI0 fun i j => .bl (decide (i < j))) := opB0 fun _ _ _ _ _ _ _ q => lt_int q
theorem op_le : OpR X (compareOp .LtE) (rI0 fun i j => .bl (decide (i ≤ j))) := opB0 fun _ _ _ _ _ _ _ q => le_int q
theorem op_gt : OpR X (compareOp .Gt) (rI0 fun i j => .bl (decide (j < i))) := opB0 fun _ _ _ _ _ _ _ q => gt_int q
theorem op_ge : OpR X (compareOp .GtE) (rI0 fun i j => .bl (decide (j ≤ i))) := opB0 fun _ _ _ _ _ _ _ q => ge_int q
theorem Zas (b : Expr) {op : CmpOp} (h : op ≠ .In := by decide) (h2 : op ≠ .NotIn := by decide) : behindInMarks op b = false := by
 have e1 : (op == CmpOp.In) = false := by cases op <;> first | rfl | exact absurd rfl h
 have e2 : (op == CmpOp.NotIn) = false := by cases op <;> first | rfl | exact absurd rfl h2
 cases b <;> simp [behindInMarks, e1, e2]
theorem Zwj {op : CmpOp} {r : R2} (ho : OpR X (compareOp op) r) (ha : PE X a ta) (hb : PE X b tb) (hm : behindInMarks op b = false) : PE X (.Compare a [op] [b] pos) (tOp r ta tb) := by
 intro pins s σ H Q I h
 exact wpAny_Compare1 (binT ha hb I h fun v u s2 x y H2 I2 rx ry q => ho pins s2 σ H2 x y v u Q I2 rx ry q) hm
noncomputable def tTest (t : TE) : TT := fun σ H Q => t σ H fun x H' => ∃ k, x = .bl k ∧ Q k H'
theorem Zwr {op : CmpOp} {r : R2} (ho : OpR X (compareOp op) r) (ha : PE X a ta) (hb : PE X b tb) (hm : behindInMarks op b = false) : PT X (.Compare a [op] [b] pos) (tTest (tOp r ta tb)) := by
 intro pins s σ H Q I h
 refine wpAny_isTrue_Compare1 (thn (ha pins s σ H _ I h) fun v s1 ⟨x, H1, I1, r1, q1⟩ => thn (hb pins s1 σ H1 _ I1 q1) fun u s2 ⟨y, H2, I2, r2, q2⟩ =>
  thn (ho pins s2 σ H2 x y v u _ I2 r1 r2 q2) fun c s3 ⟨z, H3, I3, r3, k, e, q3⟩ => ?_) hm
 subst e
 cases r3
 exact wpAny_truthy_bool ⟨H3, I3, q3⟩
noncomputable def Zvb (r r' : R2) (ta tb tc : TE) : TE := fun σ H Q => ta σ H fun x H1 => tb σ H1 fun y H2 => r x y H2 fun z H3 => ∃ k, z = .bl k ∧
 (if k = true then tc σ H3 fun w' H4 => r' y w' H4 Q else Q (.bl false) H3)
theorem Ztm {op op' : CmpOp} {r r' : R2} (ho : OpR X (compareOp op) r) (ho' : OpR X (compareOp op') r') (ha : PE X a ta) (hb : PE X b tb) (hc : PE X c tc)
  (hm : lastMarks [op, op'] [b, c] = false := by with_unfolding_all rfl) : PE X (.Compare a [op, op'] [b, c] pos) (Zvb r r' ta tb tc) := by
 intro pins s σ H Q I h
 refine Compare_chain (thn (ha pins s σ H _ I h) fun v s1 ⟨x, H1, I1, r1, q1⟩ => chain_link (thn (hb pins s1 σ H1 _ I1 q1) fun u s2 ⟨y, H2, I2, r2, q2⟩ =>
  thn (ho pins s2 σ H2 x y v u _ I2 r1 r2 q2) fun d s3 ⟨z, H3, I3, r3, k, e, q3⟩ => ?_)) hm
 subst e
 cases r3
 refine wpAny_truthy_bool ?_
 cases k with
 | false => exact ite_ff ⟨.bl false, H3, I3, rfl, q3⟩
 | true => exact ite_tt (chain_last (thn (hc pins s3 σ H3 _ I3 q3) fun w' s4 ⟨z', H4, I4, r4, q4⟩ => ho' pins s4 σ H4 y z' u w' Q I4 r2 r4 q4))
noncomputable def TruV (K : PySem.W.Frag) (x : V) (H : Hp) (k : Bool) : Prop :=
 match x with
 | .non => k = false
 | .bl b => k = b
 | .int i => k = (i != 0)
 | .str y => y.length ≤ sizeLine ∧ k = ((y.length : Int) != 0)
 | .byt y => y.size ≤ sizeLine ∧ k = ((y.size : Int) != 0)
 | .ref p => (∃ xs, SqL K H p xs ∧ k = !xs.isEmpty) ∨ (∃ xs, SqT K H p xs ∧ k = !xs.isEmpty) ∨ ∃ kvs, H p = some (.dK kvs) ∧ k = !kvs.isEmpty
 | _ => False
theorem Zog {κ : Type} {kvs : List (κ × V)} {vs : List (κ × Value)} (r : KV kvs vs) : (!vs.isEmpty) = !kvs.isEmpty := by
 cases r <;> rfl
theorem Ziv {xs : List V} {its : List Value} (r : Za8 xs its) : (!its.toArray.isEmpty) = !xs.isEmpty := by
 cases r <;> simp
theorem Zjd : (sizeLine : Nat) < 2 ^ 63 := by rw [sizeLine_eq]; decide
theorem Zzx : TruR X (fun x H Q => ∃ k, TruV X.K x H k ∧ Q k H) := by
 intro pins s σ H x v Q I rx h
 obtain ⟨k, e, q⟩ := h
 have hl := Zjd
 have hs : sizeLine = 16777216 := sizeLine_eq
 cases x with
 | non =>
  cases rx
  have e' : k = false := e
  subst e'
  exact truthy_none ⟨H, I, q⟩
 | bl b =>
  cases rx
  have e' : k = b := e
  subst e'
  exact wpAny_truthy_bool ⟨H, I, q⟩
 | int i =>
  obtain ⟨t, rfl⟩ := rx
  have e' : k = (i != 0) := e
  subst e'
  exact PySem.P.truthy_int ⟨H, I, q⟩
 | str y =>
  obtain ⟨t, rfl⟩ := rx
  obtain ⟨hy, e'⟩ : y.length ≤ sizeLine ∧ k = ((y.length : Int) != 0) := e
  subst e'
  exact PySem.P.truthy_str (by omega) ⟨H, I.tok _, q⟩
 | byt y =>
  obtain ⟨t, rfl⟩ := rx
  obtain ⟨hy, e'⟩ : y.size ≤ sizeLine ∧ k = ((y.size : Int) != 0) := e
  subst e'
  exact PySem.W.truthy_bytes (by omega) ⟨H, I.tok _, q⟩
 | ref p =>
  cases rx
  have e' : (∃ xs, SqL X.K H p xs ∧ k = !xs.isEmpty) ∨ (∃ xs, SqT X.K H p xs ∧ k = !xs.isEmpty) ∨ ∃ kvs, H p = some (.dK kvs) ∧ k = !kvs.isEmpty := e
  rcases e' with ⟨xs, hx, e'⟩ | ⟨xs, hx, e'⟩ | ⟨kvs, hx, e'⟩
  ·subst e'
   obtain ⟨its, r, pl, hz⟩ := I.list hx
   have hlen := r.length
   exact wpAny_truthy_list pl.isList (by simp only [List.size_toArray]; omega) ⟨H, I.tok _, by rw [Ziv r]; exact q⟩
  ·subst e'
   obtain ⟨its, r, pl, hz⟩ := I.tuple hx
   have hlen := r.length
   exact truthy_tuple pl (by simp only [List.size_toArray]; omega) ⟨H, I.tok _, by rw [Ziv r]; exact q⟩
  ·subst e'
   obtain ⟨hz, hS, vs, r, m⟩ : kvs.length ≤ sizeLine ∧ (p == sysModules) = false ∧ ∃ vs, KV kvs vs ∧ s.heap.DictOf (Zmm X.prog X.w) p vs := I.hok p _ hx
   have hlen : kvs.length = vs.length := Paired.length r
   exact wpAny_truthy_dict hS m (by omega) ⟨H, I.tok _, by rw [Zog r]; exact q⟩
 | _ => exact (show False from e).elim
theorem Zs8 (ha : PE X a ta) (he : ∀ whole, isTrue a X.env whole = (do let v ← whole; standAt a.pos; holding [v] (truthy v))) :
  PT X a (fun σ H Q => ta σ H fun x H' => ∃ k, TruV X.K x H' k ∧ Q k H') := by
 intro pins s σ H Q I h
 exact isTrue_plain (thn (ha pins s σ H _ I h) fun v s1 ⟨x, H1, I1, r1, q1⟩ => Zzx pins s1 σ H1 x v Q I1 r1 q1) (he _)
theorem Zoo : OpR X (binaryOp .Add) (fun x y H Q => ∃ i j, x = .str i ∧ y = .str j ∧ i.length + j.length ≤ sizeLine ∧ Q (.str (i ++ j)) H) := by
 intro pins s σ H x y v u Q I rx ry h
 obtain ⟨i, j, rfl, rfl, hz, q⟩ := h
 obtain ⟨t, rfl⟩ := rx
 obtain ⟨t', rfl⟩ := ry
 exact add_str (fun t' tk => ⟨.str (i ++ j), H, I.tok _, ⟨_, rfl⟩, q⟩) hz
theorem Zir {x : V} {us : List Value} (r : Za8 [x] us) : ∃ u, us = [u] ∧ Zcn x u := by
 cases r with
 | cons r1 r2 => cases r2; exact ⟨_, rfl, r1⟩
theorem Ztb {x y : V} {us : List Value} (r : Za8 [x, y] us) : ∃ u w', us = [u, w'] ∧ Zcn x u ∧ Zcn y w' := by
 cases r with
 | cons r1 r2 =>
  cases r2 with
  | cons r3 r4 => cases r4; exact ⟨_, _, rfl, r1, r3⟩
theorem Zsq : Zgx X (.builtin "abs") (fun xs H Q => ∃ i, xs = [.int i] ∧ Q (.int (if i < 0 then -i else i)) H) := by
 intro pins s σ H xs us Q I r h
 obtain ⟨i, rfl, q⟩ := h
 obtain ⟨u, rfl, t, rfl⟩ := Zir r
 exact call_abs_int fun u tk => ⟨.int (if i < 0 then -i else i), H, I.tok _, ⟨_, rfl⟩, q⟩
theorem Zko : Zgx X (.type "int") (fun xs H Q => (∃ i, xs = [.int i] ∧ Q (.int i) H) ∨ ∃ k, xs = [.bl k] ∧ Q (.int (if k then 1 else 0)) H) := by
 intro pins s σ H xs us Q I r h
 rcases h with ⟨i, rfl, q⟩ | ⟨k, rfl, q⟩
 ·obtain ⟨u, rfl, t, rfl⟩ := Zir r
  exact call_int_int ⟨.int i, H, I, ⟨_, rfl⟩, q⟩
 ·obtain ⟨u, rfl, r1⟩ := Zir r
  cases r1
  exact call_int_bool ⟨.int (if k then 1 else 0), H, I.tok _, ⟨_, rfl⟩, q⟩
theorem Zkn : Zgx X (.type "str") (fun xs H Q => ∃ i, xs = [.int i] ∧ i.natAbs.log2 < 1920 ∧ Q (.str (toString i)) H) := by
 intro pins s σ H xs us Q I r h
 obtain ⟨i, rfl, hz, q⟩ := h
 obtain ⟨u, rfl, t, rfl⟩ := Zir r
 exact PySem.P.str_of_int hz ⟨.str _, H, I.tok _, ⟨_, rfl⟩, q⟩
end
structure ObjM (h : Heap) (x dx C : Addr) (mA : Str -> Option Value) : Prop where
 obj : h.get? x = some (PySem.W.instObj C dx)
 ns : h.Ns1 dx mA
 ne : dx ≠ x
theorem Zpj {h : Heap} {dx : Addr} {mA : Str -> Option Value} (n : h.Ns1 dx mA) : ∃ od, h.get? dx = some od ∧ ∀ name, PySem.W.lookIn name od = some (mA name) := by
 obtain ⟨o, es, ep, ho, hd, hk, _, hm⟩ := n
 refine ⟨o, ho, fun name => ?_⟩
 have e := hm name
 unfold nsFind findBy at e
 rw [← Array.find?_toList] at e
 unfold PySem.W.lookIn
 rw [hd]
 dsimp only
 split
 ·rename_i y q
  rw [q] at e
  exact congrArg some e
 ·rename_i q
  rw [q] at e
  have a : es.toList.any (·.refKey) = false := by
   rw [List.any_eq_false]
   intro y hy
   obtain ⟨z, t, hkey⟩ := hk y (Array.mem_toList_iff.mp hy)
   simp [DictEntry.refKey, hkey]
  have a' : ¬ es.toList.any (·.refKey) = true := by rw [a]; exact Bool.false_ne_true
  rw [if_neg a']
  exact congrArg some e
theorem ObjM.look {h : Heap} {x dx C : Addr} {mA : Str -> Option Value} (I : ObjM h x dx C mA) : ∃ od, PySem.W.InstAt h x (PySem.W.instObj C dx) C (some od) ∧ ∀ name, PySem.W.lookIn name od = some (mA name) :=
 let ⟨od, ho, hl⟩ := Zpj I.ns
 ⟨od, ⟨I.obj, rfl, rfl, ho⟩, hl⟩
section
variable {prog : Program} {w : World} {A : Around} {E : Value -> Shared -> Prop} {s : Shared} {K : PySem.W.Frag} {x dx C f : Addr} {mA : Str -> Option Value} {name : Str} {v : Value}
theorem Zwe {expr : Bool} {Q : Value -> Shared -> Prop} (X : K.In s.heap) (I : ObjM s.heap x dx C mA) (hg : PySem.W.plainGet K C name = true) (hh : PySem.W.hasDictIn K C = true)
  (ha : PySem.W.findIn K (.ref C) name = some none) (hv : mA name = some v) (hv' : PySem.W.handedIn v = true) (h : Q v { s with toks := s.toks + 1 }) :
  wpAny (model prog w) A (getAttr (.ref x) name expr) Q E s := by
 obtain ⟨od, J, hl⟩ := I.look
 exact PySem.W.get_value X J (PySem.W.plainGet_of hg).1 (PySem.W.findObj_own hh ha rfl (by rw [hl, hv])) hv' h
theorem Zuh {pl : Sem Bool} {Q : Value × List Value -> Shared -> Prop} (X : K.In s.heap) (I : ObjM s.heap x dx C mA) (hg : PySem.W.plainGet K C name = true)
  (hf : PySem.W.findIn K (.ref C) name = some (some (.ref f))) (ht : PySem.W.isFn K (.ref f) = true) (hv : mA name = none) (h : Q (.ref f, [.ref x]) s) :
  wpAny (model prog w) A (getMethod (.ref x) name pl) Q E s := by
 obtain ⟨od, J, hl⟩ := I.look
 exact PySem.W.method_fn X J (PySem.W.plainGet_of hg).1 (PySem.W.plainGet_of hg).2 hf (beq_iff_eq.mp ht) (by show (PySem.W.lookIn name od).map (·.isSome) = some false; rw [hl, hv]; rfl) h
theorem Zxp {ns : List Str} {Q : Unit -> Shared -> Prop} (X : K.In s.heap) (I : ObjM s.heap x dx C mA)
  (hs : PySem.W.findIn K (.ref C) "__setattr__" = some (some (.builtin "object.__setattr__"))) (hp : PySem.W.plainOver K C = true) (ht : PySem.W.takerIn K C name = some none) (hh : PySem.W.hasDictIn K C = true)
  (hw : PySem.Within mA ns) (hsz : ns.length ≤ sizeLine)
  (h : ∀ h', ObjM h' x dx C (fun y => if y = name then some v else mA y) -> Heap.SameBut dx s.heap h' -> Q () { s with heap := h', toks := s.toks + 2 }) :
  wpAny (model prog w) A (setAttr (.ref x) name v) Q E s := by
 obtain ⟨od, J, hl⟩ := I.look
 refine PySem.W.set_plain X J hs (PySem.W.osa_open (s := { s with toks := s.toks + 1 }) (r := none) X J hp ht fun b => ?_)
 obtain ⟨cd, hc, hd'⟩ := PySem.W.any_some hh
 have hx : s.heap.get? x = some ⟨.ref C, some dx, .plain, #[]⟩ := I.obj
 refine wpAny_bind (wpAny_pure (wpAny_bind (wpAny_bind (wpAny_loadPart hx (wpAny_bind (PySem.W.Looks.here (s := { s with toks := s.toks + 1 }) (PySem.W.looks_clsIn X hc) ?_))))))
 rw [hd']
 refine wpAny_pure (a := some dx) (wpAny_bind (wpAny_pure (wpAny_bind ?_)))
 refine wpAny_nsSet1 (s := { s with toks := s.toks + 1 }) I.ns fun h' hn2 hs2 => ?_
 obtain ⟨oD, esD, epD, hoD, hdD, hcD⟩ := hn2.count (PySem.Within.cons name v hw)
 refine wpAny_bind (wpAny_lookBehind hoD (by rw [hdD]; exact pastItsLine_dict (Nat.le_trans hcD (by rw [List.length_cons]; omega))) ?_)
 exact wpAny_pure (h _ ⟨(hs2.2 _ (Ne.symm I.ne)).trans I.obj, hn2, I.ne⟩ hs2)
theorem Zum {R : Result -> Shared -> Prop} {vs : List Value} {kw : List (Str × Value)} (X : K.In s.heap) (hm : PySem.W.makesIn K C = true)
  (hi : PySem.W.findIn K (.ref C) "__init__" = some (some (.ref f))) (hf : PySem.W.typeIn K (.ref f) = some (.type "function"))
  (h : codeAny (model prog w) (A.under (.builtin "type.__call__" ⟨.ref C :: vs, kw⟩)) (.call (.ref f) ⟨.ref (s.heap.objs.size + 1) :: vs, kw⟩) (PySem.W.InitBack (s.heap.objs.size + 1) R)
   { s with heap := (s.heap.push PySem.W.emptyDict).push (PySem.W.instObj C s.heap.objs.size) }) :
  codeAny (model prog w) A (.call (.ref C) ⟨vs, kw⟩) R s := by
 obtain ⟨hh, g, d, t, os⟩ := s
 exact PySem.W.make_core (PySem.W.makes_of X hm) (PySem.W.looks_findIn X hi) (fun self => PySem.W.bind_fn X self hf) (.inl rfl) h
end
noncomputable def Zii (f : Str) (v : V) : List (Str × V) -> List (Str × V)
 | [] => [(f, v)]
 | (g, x) :: r => if g = f then (g, v) :: r else (g, x) :: Zii f v r
theorem Zhr (f g : Str) (v : V) : ∀ fs : List (Str × V), (Zii f v fs).lookup g = if g = f then some v else fs.lookup g
 | [] => by
  show List.lookup g [(f, v)] = _
  by_cases h : g = f
  ·have hb : (g == f) = true := beq_iff_eq.mpr h
   simp only [List.lookup, hb, if_pos h]
  ·have hb : (g == f) = false := beq_eq_false_iff_ne.mpr h
   simp only [List.lookup, hb, if_neg h]
 | (k, x) :: r => by
  have ih := Zhr f g v r
  rw [show Zii f v ((k, x) :: r) = (if k = f then (k, v) :: r else (k, x) :: Zii f v r) from rfl]
  by_cases hk : k = f
  ·rw [if_pos hk]
   by_cases h : g = k
   ·have hb : (g == k) = true := beq_iff_eq.mpr h
    simp only [List.lookup, hb, if_pos (h.trans hk)]
   ·have hb : (g == k) = false := beq_eq_false_iff_ne.mpr h
    simp only [List.lookup, hb, if_neg (fun e : g = f => h (e.trans hk.symm))]
  ·rw [if_neg hk]
   by_cases h : g = k
   ·have hb : (g == k) = true := beq_iff_eq.mpr h
    simp only [List.lookup, hb, if_neg (fun e : g = f => hk (h.symm.trans e))]
   ·have hb : (g == k) = false := beq_eq_false_iff_ne.mpr h
    simp only [List.lookup, hb]
    exact ih
theorem Zid (f : Str) (v : V) : ∀ fs : List (Str × V), f ∈ (Zii f v fs).map (·.1) ∧ ∀ g, g ∈ fs.map (·.1) -> g ∈ (Zii f v fs).map (·.1)
 | [] => ⟨by simp [Zii], fun g h => by simp at h⟩
 | (k, x) :: r => by
  obtain ⟨i1, i2⟩ := Zid f v r
  rw [show Zii f v ((k, x) :: r) = (if k = f then (k, v) :: r else (k, x) :: Zii f v r) from rfl]
  by_cases hk : k = f
  ·rw [if_pos hk]
   subst hk
   exact ⟨by simp, fun g h => by simpa using h⟩
  ·rw [if_neg hk]
   refine ⟨?_, fun g h => ?_⟩
   ·rw [List.map_cons]
    exact List.mem_cons_of_mem _ i1
   ·rw [List.map_cons] at h ⊢
    rcases List.mem_cons.mp h with e | e
    ·exact List.mem_cons.mpr (.inl e)
    ·exact List.mem_cons_of_mem _ (i2 g e)
theorem Zh2 (f : Str) (v : V) : ∀ fs : List (Str × V), (Zii f v fs).length ≤ fs.length + 1
 | [] => by simp [Zii]
 | (k, x) :: r => by
  have ih := Zh2 f v r
  rw [show Zii f v ((k, x) :: r) = (if k = f then (k, v) :: r else (k, x) :: Zii f v r) from rfl]
  by_cases hk : k = f
  ·rw [if_pos hk, List.length_cons, List.length_cons]; omega
  ·rw [if_neg hk, List.length_cons, List.length_cons]; omega
theorem Zsk.some_of {v : V} {o : Option Value} (r : Zsk (some v) o) : ∃ u, o = some u ∧ Zcn v u := by
 cases o with
 | none => exact (show False from r).elim
 | some u => exact ⟨u, rfl, r⟩
theorem Zsk.none_of {o : Option Value} (r : Zsk none o) : o = none := by
 cases o with
 | none => rfl
 | some u => exact (show False from r).elim
theorem Zrr {v : V} {u : Value} (r : Zcn v u) : PySem.W.handedIn u = true := by
 cases v with
 | non => cases (show u = Value.none from r); rfl
 | bl b => cases (show u = Value.bool b from r); rfl
 | int i => obtain ⟨t, e⟩ := (show ∃ t, u = Value.int i t from r); cases e; rfl
 | str x => obtain ⟨t, e⟩ := (show ∃ t, u = Value.str x t from r); cases e; rfl
 | byt b => obtain ⟨t, e⟩ := (show ∃ t, u = Value.bytes b t from r); cases e; rfl
 | flt b => obtain ⟨t, e⟩ := (show ∃ t, u = Value.float b t from r); cases e; rfl
 | ref a => cases (show u = Value.ref a from r); rfl
 | ty n => cases (show u = Value.type n from r); rfl
section
variable {P : Program} {w : World} {H H' : Hp} {h h' : Heap} {a C dx : Addr} {fs fs' : List (Str × V)}
theorem Zme (hok : HOk P w H h) (e : H a = some (.ins C dx fs)) : ∃ mA, ObjM h a dx C mA ∧ (∀ f, Zsk (fs.lookup f) (mA f)) ∧ PySem.Within mA (fs.map (·.1)) ∧ fs.length ≤ 1000 ∧ H dx = some (.own a) := by
 obtain ⟨d, z, ne, ob, mA, n, r, q⟩ := (show Zdb P w H h a (.ins C dx fs) from hok a _ e)
 exact ⟨mA, ⟨ob, n, ne⟩, r, q, z, d⟩
end
structure Cls (K : PySem.W.Frag) (C : Addr) : Prop where
 pg : PySem.W.plainGet K C Str.empty = true
 hd : PySem.W.hasDictIn K C = true
 po : PySem.W.plainOver K C = true
 sa : PySem.W.findIn K (.ref C) "__setattr__" = some (some (.builtin "object.__setattr__"))
theorem Cls.get {K : PySem.W.Frag} {C : Addr} (c : Cls K C) (f : Str) : PySem.W.plainGet K C f = true := c.pg
noncomputable def Zgn (K : PySem.W.Frag) (C : Addr) (f : Str) : Prop := PySem.W.findIn K (.ref C) f = some none
theorem Zgn.taker {K : PySem.W.Frag} {C : Addr} {f : Str} (n : Zgn K C f) : PySem.W.takerIn K C f = some none := by
 unfold PySem.W.takerIn
 rw [show PySem.W.findIn K (.ref C) f = some none from n]
 rfl
structure Meth (K : PySem.W.Frag) (C : Addr) (m : Str) (f : Addr) : Prop where
 at_ : PySem.W.findIn K (.ref C) m = some (some (.ref f))
 fn : PySem.W.isFn K (.ref f) = true
 kp : PySem.W.keepIn K (.ref f) = true
section
variable {X : Cx} {pins : List (Addr × Obj)} {σ : St} {H : Hp} {s : Shared} {a C dx : Addr} {fs : List (Str × V)} {f : Str} {v : V} {A : Around} {E : Value -> Shared -> Prop}
theorem Zom {b : Bool} {Q : Value -> Shared -> Prop} (I : Inv X pins σ H s) (e : H a = some (.ins C dx fs)) (c : Cls X.K C) (n : Zgn X.K C f) (l : fs.lookup f = some v)
  (h : ∀ u s', Inv X pins σ H s' -> Zcn v u -> Q u s') : wpAny (model X.prog X.w) A (getAttr (.ref a) f b) Q E s := by
 obtain ⟨mA, O, r, _, _, _⟩ := Zme I.hok e
 obtain ⟨u, hu, ru⟩ := Zsk.some_of (v := v) (o := mA f) (by rw [← l]; exact r f)
 exact Zwe I.kIn O (c.get f) c.hd n hu (Zrr ru) (h u _ (I.tok _) ru)
theorem Zep {m : Str} {g : Addr} {pl : Sem Bool} {Q : Value × List Value -> Shared -> Prop} (I : Inv X pins σ H s) (e : H a = some (.ins C dx fs)) (c : Cls X.K C) (k : Meth X.K C m g) (l : fs.lookup m = none)
  (h : Q (.ref g, [.ref a]) s) : wpAny (model X.prog X.w) A (getMethod (.ref a) m pl) Q E s := by
 obtain ⟨mA, O, r, _, _, _⟩ := Zme I.hok e
 have hn : mA m = none := Zsk.none_of (by rw [← l]; exact r m)
 exact Zuh I.kIn O (c.get m) k.at_ k.fn hn h
theorem Zox {y : V} {u : Value} {Q : Unit -> Shared -> Prop} (I : Inv X pins σ H s) (e : H a = some (.ins C dx fs)) (c : Cls X.K C) (n : Zgn X.K C f) (hl : fs.length < 1000) (ry : Zcn y u)
  (h : ∀ s', Inv X pins σ (upd H a (.ins C dx (Zii f y fs))) s' -> Q () s') : wpAny (model X.prog X.w) A (setAttr (.ref a) f u) Q E s := by
 obtain ⟨mA, O, r, wi, _, ho⟩ := Zme I.hok e
 have hz : (fs.map (·.1)).length ≤ sizeLine := by rw [List.length_map, sizeLine_eq]; omega
 refine Zxp I.kIn O c.sa c.po n.taker c.hd wi hz fun h' O' sb => h _ ?_
 have hd : ∃ o, h'.get? dx = some o := let ⟨o, _, _, e', _⟩ := O'.ns; ⟨o, e'⟩
 refine I.write (x := a) (e := dx) (by rw [e]; exact True.intro) (.inr ho) (fun b q hb z => (sb.2 b hb).trans z) hd ?_
 refine ⟨by rw [Zaj O.ne]; exact ho, ?_, O.ne, O'.obj, _, O'.ns, fun g => ?_, fun g hg => ?_⟩
 ·have := Zh2 f y fs; omega
 ·show Zsk ((Zii f y fs).lookup g) (if g = f then some u else mA g)
  rw [Zhr]
  by_cases q : g = f
  ·rw [if_pos q, if_pos q]; exact ry
  ·rw [if_neg q, if_neg q]; exact r g
 ·by_cases q : g = f
  ·rw [q]; exact (Zid f y fs).1
  ·refine (Zid f y fs).2 g (wi g fun z => hg ?_)
   show (if g = f then some u else mA g) = none
   rw [if_neg q]; exact z
theorem Inv.made (I : Inv X pins σ H s) : Inv X pins σ (upd (upd H s.heap.objs.size (.own (s.heap.objs.size + 1))) (s.heap.objs.size + 1) (.ins C s.heap.objs.size []))
  { s with heap := (s.heap.push PySem.W.emptyDict).push (PySem.W.instObj C s.heap.objs.size) } := by
 have e1 : (s.heap.push PySem.W.emptyDict).get? s.heap.objs.size = some PySem.W.emptyDict := Heap.get?_push_size s.heap rfl
 have e2 : ((s.heap.push PySem.W.emptyDict).push (PySem.W.instObj C s.heap.objs.size)).get? (s.heap.objs.size + 1) = some (PySem.W.instObj C s.heap.objs.size) := by
  have := Heap.get?_push_size (s.heap.push PySem.W.emptyDict) (o := PySem.W.instObj C s.heap.objs.size) rfl
  rwa [Heap.size_push] at this
 have e3 : (s.heap.push PySem.W.emptyDict).Ns s.heap.objs.size (fun _ => none) := ⟨PySem.W.emptyDict, #[], _, e1, rfl, (fun e he => absurd he (by simp)), fun _ => rfl⟩
 have I1 := I.laid (a := s.heap.objs.size) (o := .own (s.heap.objs.size + 1)) (h' := s.heap.push PySem.W.emptyDict) (t' := s.toks) (fun b u q => Heap.get?_push_of_some _ q) (Nat.le_refl _) ⟨_, e1⟩
 refine I1.laid (a := s.heap.objs.size + 1) (o := .ins C s.heap.objs.size []) (t' := s.toks) (fun b u q => Heap.get?_push_of_some _ q) (Nat.le_of_eq (Heap.size_push _ _)) ?_
 have ne : s.heap.objs.size ≠ s.heap.objs.size + 1 := Nat.ne_of_lt (Nat.lt_succ_self _)
 refine ⟨by rw [Zaj ne, Zaq], Nat.zero_le _, ne, e2, fun _ => none, (Heap.Ns1.of_empty e3).at fun o q => Heap.get?_push_of_some _ q, fun _ => True.intro, fun y hy => absurd rfl hy⟩
theorem Zw9 {prog : Program} {w : World} {env : Env} {e : Expr} {f : Str} {pos : Pos} {s : Shared} {Q : Value -> Shared -> Prop} (hb : attributeBase e f env (eval e env) = eval e env)
  (h : wpAny (model prog w) A (eval e env) (fun o s₁ => wpAny (model prog w) A (getAttr o f true) Q E s₁) E s) : wpAny (model prog w) A (eval (.Attribute e f pos) env) Q E s :=
 Attribute_any_ h (by rw [arm_eval_Attribute, hb])
end
noncomputable def tFld (K : PySem.W.Frag) (ta : TE) (f : Str) : TE := fun σ H Q => ta σ H fun x H1 => ∃ a C dx fs v, x = .ref a ∧ H1 a = some (.ins C dx fs) ∧ Cls K C ∧ Zgn K C f ∧ fs.lookup f = some v ∧ Q v H1
noncomputable def sFld (K : PySem.W.Frag) (ta tv : TE) (f : Str) : TS := fun D σ H => tv σ H fun y H1 => ta σ H1 fun x H2 => ∃ a C dx fs, x = .ref a ∧ H2 a = some (.ins C dx fs) ∧ Cls K C ∧ Zgn K C f ∧ fs.length < 1000 ∧
 D.nx σ (upd H2 a (.ins C dx (Zii f y fs)))
section
variable {X : Cx} {o e value : Expr} {f : Str} {pos pos' tpos : Pos} {ta tv : TE}
theorem Zx6 (he : PE X e ta) (hb : attributeBase e f X.env (eval e X.env) = eval e X.env) : PE X (.Attribute e f pos) (tFld X.K ta f) := by
 intro pins s σ H Q I h
 refine Zw9 hb (thn (he pins s σ H _ I h) fun u s1 zz => ?_)
 obtain ⟨x, H1, I1, rx, a, C, dx, fs, v, ex, ea, c, n, l, q⟩ := zz
 subst ex
 obtain rfl : u = Value.ref a := rx
 exact Zom I1 ea c n l fun u' s2 I2 ru => ⟨v, H1, I2, ru, q⟩
theorem Yav (ha : PE X o ta) (hv : PE X value tv) (hs : swapsWith value (some (.Attribute o f pos')) pos.line X.env = pure false) : PS X (.Assign [.Attribute o f pos'] value pos) (sFld X.K ta tv f) := by
 intro pins s σ H D I h
 refine plainObj_wpAny_Assign_Attribute (thn (hv pins s σ H _ I h) fun u s1 ⟨y, H1, I1, ry, q⟩ => thn (ha pins s1 σ H1 _ I1 q) fun ov s2 ⟨x, H2, I2, rx, a, C, dx, fs, ex, ea, c, n, l, q2⟩ => ?_) hs
 subst ex
 obtain rfl : ov = Value.ref a := rx
 exact Zox I2 ea c n l ry fun s3 I3 => ⟨σ, _, I3, q2⟩
end
structure Room (k : Nat) (A : Around) : Prop where
 hd : A.handled = none
 dp : A.depth + 3 * k + 5 < recursionLimit
 un : A.units + 16 * k + 200 < cLine
 gd : A.guards = some []
theorem Room.mono {j k : Nat} {A : Around} (r : Room k A) (h : j ≤ k) : Room j A := ⟨r.hd, by have := r.dp; omega, by have := r.un; omega, r.gd⟩
theorem Room.deeper {k : Nat} {A : Around} (r : Room (k + 1) A) (env : Env) : Room k (A.deeper env) :=
 ⟨r.hd, by have := r.dp; show A.depth + 1 + 3 * k + 5 < _; omega, by have := r.un; show A.units + 3 + 16 * k + 200 < _; omega, r.gd⟩
theorem Zob {A : Around} {C : Addr} {us : List Value} {kw : List (Str × Value)} : (A.under (.builtin "type.__call__" ⟨.ref C :: us, kw⟩)).depth = A.depth + 1 := by
 first | rfl | simp [Around.under, Code.weight, Code.isCreation, Code.isGuard, Code.isCaller, Code.frames, Code.isFrame, guardIds]
theorem Zos {A : Around} {C : Addr} {us : List Value} {kw : List (Str × Value)} : (A.under (.builtin "type.__call__" ⟨.ref C :: us, kw⟩)).units = A.units + 1 := by
 first | rfl | simp [Around.under, Code.cUnits, Code.frames, Code.isFrame]
theorem Room.make {k : Nat} {A : Around} (r : Room (k + 1) A) (C : Addr) (us : List Value) (kw : List (Str × Value)) : Room k (A.under (.builtin "type.__call__" ⟨.ref C :: us, kw⟩)) :=
 ⟨r.hd, by have := r.dp; rw [Zob]; omega, by have := r.un; rw [Zos]; omega, by first | exact r.gd | (simpa [Around.under, Code.guards, Code.isGuard, guardIds, pushGuards] using r.gd)⟩
theorem Room.depth {k : Nat} {A : Around} (r : Room k A) : A.depth < recursionLimit := by have := r.dp; omega
theorem Room.units {k : Nat} {A : Around} (r : Room k A) : A.units + 64 < cLine := by have := r.un; omega
noncomputable def tNil : TA := fun _ H Q => Q [] H
noncomputable def tCons (ta : TE) (tr : TA) : TA := fun σ H Q => ta σ H fun x H1 => tr σ H1 fun xs H2 => Q (x :: xs) H2
section
variable {X : Cx} {e : Expr} {es : List Expr} {te : TE} {t : TA} {pos : Pos}
theorem Zlz : PA X [] tNil := fun _ _ _ _ H Q I h => Calls.spliced_nil ⟨[], H, I, .nil, h⟩
theorem Zek (ha : PE X e te) (hr : PA X es t) (hs : starEach (e :: es) X.env = (false, eval e X.env) :: starEach es X.env := by rfl) : PA X (e :: es) (tCons te t) := by
 intro pos pins s σ H Q I h
 rw [hs]
 show wpAny _ _ (spliced ((false, eval e X.env) :: backTo pos (starEach es X.env))) _ _ s
 refine Calls.spliced_cons (thn (ha pins s σ H _ I h) fun u s1 zz => ?_)
 obtain ⟨x, H1, I1, r1, q1⟩ := zz
 exact thn (hr pos pins s1 σ H1 _ I1 q1) fun us s2 ⟨xs, H2, I2, r2, q2⟩ => ⟨x :: xs, H2, I2, .cons r1 r2, q2⟩
noncomputable def tTup (t : TA) : TE := fun σ H Q => t σ H fun xs H1 => xs.length ≤ sizeLine ∧ ∀ p, H1 p = none -> Q (.ref p) (upd H1 p (.tup xs))
noncomputable def tLst (t : TA) : TE := fun σ H Q => t σ H fun xs H1 => xs.length ≤ sizeLine ∧ ∀ p, H1 p = none -> Q (.ref p) (upd H1 p (.lst xs))
theorem Zvj {x1} (h : PA X es t) : PE X (.Tuple es x1 pos) (tTup t) := by
 intro pins s σ H Q I hq
 refine wpAny_Tuple_spliced (thn (h pos pins s σ H _ I hq) fun us s1 ⟨xs, H1, I1, r, z, q⟩ => ⟨by rw [← r.length]; exact z, ?_⟩)
 have hf : H1 s1.heap.objs.size = none := I1.hok.fresh (Nat.le_refl _)
 refine ⟨.ref s1.heap.objs.size, upd H1 s1.heap.objs.size (.tup xs), I1.laid (t' := s1.toks) (fun b u e => Heap.get?_push_of_some _ e) (Nat.le_refl _) ?_, rfl, q _ hf⟩
 exact ⟨z, us, r, ⟨_, Heap.get?_push_size _ rfl, rfl, ⟨_, rfl⟩, rfl⟩⟩
theorem Zzb (h : PA X es t) : PE X (.List es pos) (tLst t) := by
 intro pins s σ H Q I hq
 refine wpAny_List_spliced (thn (h pos pins s σ H _ I hq) fun us s1 ⟨xs, H1, I1, r, z, q⟩ => ⟨by rw [← r.length]; exact z, ?_⟩)
 have hf : H1 s1.heap.objs.size = none := I1.hok.fresh (Nat.le_refl _)
 refine ⟨.ref s1.heap.objs.size, upd H1 s1.heap.objs.size (.lst xs), I1.laid (t' := s1.toks) (fun b u e => Heap.get?_push_of_some _ e) (Nat.le_refl _) ?_, rfl, q _ hf⟩
 exact ⟨z, us, 0, r, Heap.get?_push_size _ rfl⟩
end
noncomputable abbrev Sp := List V -> Hp -> VK -> XK -> Prop
noncomputable abbrev CXT := List Env -> Hp -> Shared -> XK -> Value -> Shared -> Prop
structure Env0 (P : Program) (w : World) (K : PySem.W.Frag) (mg : Str -> Option Value) (base : Heap) (A : Around) (outer : List Env) (s : Shared) (H : Hp) : Prop where
 frames : A.frames = some outer
 mod : Mod K mg base
 bs : ∀ b o, base.get? b = some o -> s.heap.get? b = some o ∧ H b = none
 bsz : base.objs.size ≤ s.heap.objs.size
 funs : s.heap.FunFrames base outer
 frf : ∀ b ∈ frs outer, H b = none
 hok : HOk P w H s.heap
 bare : AllBare s.gens
noncomputable def CE (outer : List Env) (P : Program) (w : World) (H : Hp) (s : Shared) (Q : VK) (u : Value) (s' : Shared) : Prop :=
 ∃ v H', s'.os = s.os ∧ AllBare s'.gens ∧ Un (frs outer) [] H H' s.heap s'.heap ∧ HOk P w H' s'.heap ∧ Zcn v u ∧ Q v H'
noncomputable def CR (CX : CXT) (outer : List Env) (P : Program) (w : World) (H : Hp) (s : Shared) (Q : VK) (E : XK) (r : Result) (s' : Shared) : Prop :=
 match r with
 | .ok (.ret u) => CE outer P w H s Q u s'
 | .ok _ => False
 | .error e => CX outer H s E e s'
structure FnOk (P : Program) (w : World) (K : PySem.W.Frag) (mg : Str -> Option Value) (base : Heap) (CX : CXT) (k : Nat) (f : Addr) (fd : FuncData) (ps : List Str) (sp : Sp) : Prop where
 len : ∀ vs H Q E, sp vs H Q E -> vs.length = ps.length
 run : ∀ (A : Around) (outer : List Env) (s : Shared) (H : Hp) (args : Args) (us : List Value) (vs : List V) (Q : VK) (E : XK), Room k A -> Env0 P w K mg base A outer s H -> BindsTo s fd args (ps.zip us) -> Za8 vs us -> sp vs H Q E →
  codeAny (model P w) A (.call (.ref f) args) (CR CX outer P w H s Q E) s
theorem Env0.make {P : Program} {w : World} {K : PySem.W.Frag} {mg : Str -> Option Value} {base : Heap} {A : Around} {outer : List Env} {s : Shared} {H : Hp} (e : Env0 P w K mg base A outer s H) (C : Addr) (us : List Value) (kw : List (Str × Value)) :
  Env0 P w K mg base (A.under (.builtin "type.__call__" ⟨.ref C :: us, kw⟩)) outer s H := ⟨by first | exact e.frames | (simpa [Around.under, Code.envs, Code.isFrame, pushEnvs] using e.frames), e.mod, e.bs, e.bsz, e.funs, e.frf, e.hok, e.bare⟩
section
variable {X : Cx} {pins : List (Addr × Obj)} {σ : St} {H : Hp} {s s' : Shared}
theorem Inv.env0 (I : Inv X pins σ H s) : Env0 X.prog X.w X.K X.mg X.base X.A X.stack s H :=
 ⟨I.ok.frames, I.ok.mod, I.bs, Nat.le_trans I.ok.bsz I.sz, I.stack, I.stkFree, I.hok, I.bare⟩
theorem Inv.after {Q : VK} {u : Value} (I : Inv X pins σ H s) (h : CE X.stack X.prog X.w H s Q u s') : EP X pins σ Q u s' := by
 obtain ⟨v, H', os, bare, un, hok, r, q⟩ := h
 obtain ⟨hh, g, d, t, os'⟩ := s'
 obtain rfl : os' = s.os := os
 exact ⟨v, H', I.call (h' := hh) (g' := g) (d' := d) (t' := t) (ch := []) un hok bare (fun b z => absurd z (by simp)), r, q⟩
end
noncomputable def tCall (sp : Sp) (dvs : List V) (E : XK) (t : TA) : TE := fun σ H Q => t σ H fun vs H1 => sp (vs ++ dvs) H1 Q E
noncomputable def Zvx (C : Addr) (m : Str) (sp : Sp) (dvs : List V) (E : XK) (ta : TE) (t : TA) : TE := fun σ H Q => ta σ H fun x H1 => ∃ a dx fs, x = .ref a ∧ H1 a = some (.ins C dx fs) ∧ fs.lookup m = none ∧
 t σ H1 fun vs H2 => sp (x :: (vs ++ dvs)) H2 Q E
noncomputable def Zyk (C : Addr) (sp : Sp) (dvs : List V) (E : XK) (t : TA) : TE := fun σ H Q => t σ H fun vs H1 => ∀ x dx, H1 x = none -> H1 dx = none -> dx ≠ x →
 sp (.ref x :: (vs ++ dvs)) (upd (upd H1 dx (.own x)) x (.ins C dx [])) (fun v H2 => v = .non ∧ Q (.ref x) H2) E
noncomputable def Zfe (K : PySem.W.Frag) (fd : FuncData) (ps : List Str) (ds : List Value) : Prop :=
 ∀ (s : Shared) (us : List Value), K.In s.heap -> (us ++ ds).length = ps.length -> BindsTo s fd ⟨us, []⟩ (ps.zip (us ++ ds))
theorem Zfe.all {K : PySem.W.Frag} {fd : FuncData} {ps : List Str} (h : ∀ us : List Value, us.length = ps.length -> bindArgs fd ⟨us, []⟩ = pure (ps.zip us)) : Zfe K fd ps [] := fun s us _ hl => by
 rw [List.append_nil] at hl ⊢
 exact .of_eq (h us hl)
noncomputable def Zhd (CX : CXT) (X : Cx) (E : XK) : Prop := ∀ (pins : List (Addr × Obj)) (σ : St) (H : Hp) (s : Shared) (e : Value) (s' : Shared), Inv X pins σ H s -> CX X.stack H s E e s' -> X.xe e s'
section
variable {X : Cx} {CX : CXT} {k : Nat} {f C : Addr} {fd : FuncData} {ps : List Str} {sp : Sp} {dvs : List V} {ds : List Value} {E : XK} {x m : Str} {p pos apos : Pos} {e o : Expr} {es : List Expr} {ta : TE} {t : TA}
theorem Zrv {pins : List (Addr × Obj)} {σ : St} {H : Hp} {s : Shared} {Q : VK} {us : List Value} {vs : List V} (F : FnOk X.prog X.w X.K X.mg X.base CX k f fd ps sp) (hr : Room k X.A) (hb : Zfe X.K fd ps ds) (hd : Za8 dvs ds) (hx : Zhd CX X E)
  (I : Inv X pins σ H s) (r : Za8 vs us) (h : sp (vs ++ dvs) H Q E) : wpAny (model X.prog X.w) X.A (call (.ref f) us) (EP X pins σ Q) X.xe s := by
 have r2 : Za8 (vs ++ dvs) (us ++ ds) := r.append hd
 have hl : (us ++ ds).length = ps.length := by rw [← r2.length]; exact F.len _ _ _ _ h
 refine wpAny_call (codeAny_mono (F.run X.A X.stack s H ⟨us, []⟩ (us ++ ds) (vs ++ dvs) Q E hr I.env0 (hb s us I.kIn hl) r2 h) fun r s' hq => ?_)
 cases r with
 | error e => exact hx pins σ H s e s' I hq
 | ok fl =>
  cases fl with
  | ret u => exact I.after hq
  | next => exact False.elim hq
  | brk => exact False.elim hq
  | cont => exact False.elim hq
theorem Zxx (F : FnOk X.prog X.w X.K X.mg X.base CX k f fd ps sp) (hr : Room k X.A) (hg : Gl X x) (hm : X.mg x = some (.ref f)) (hk : PySem.W.keepIn X.K (.ref f) = true) (hb : Zfe X.K fd ps ds) (hd : Za8 dvs ds) (hx : Zhd CX X E)
  (ha : PA X (e :: es) t) (hdb : (x == ("__debug__" : Str)) = false := by decide) (he : starEach (e :: es) X.env = (false, eval e X.env) :: starEach es X.env := by rfl) (hpl : (backTo pos (starEach es X.env)).any (·.1) = false := by rfl) :
  PE X (.Call (.Name x p) (e :: es) [] pos) (tCall sp dvs E t) := by
 intro pins s σ H Q I h
 refine wpAny_Call_Name_kw (Zh8 I hg hm ?_ hdb)
 refine PySem.W.callWith_K (h₀ := X.base) I.ok.mod.kin hk (thn (ha pos pins s σ H _ I h) fun us s1 ⟨vs, H1, I1, r, q⟩ => ⟨I1.kIn, ?_⟩) he hpl
 exact Zrv F hr hb hd hx I1 r q
theorem Zvv {pl : Sem Bool} (he : PE X o ta) (c : Cls X.K C) (hm : Meth X.K C m f) (F : FnOk X.prog X.w X.K X.mg X.base CX k f fd ps sp) (hr : Room k X.A) (hb : Zfe X.K fd ps ds) (hd : Za8 dvs ds) (hx : Zhd CX X E) (ha : PA X (e :: es) t)
  (hst : starEach (e :: es) X.env = (false, eval e X.env) :: starEach es X.env := by rfl) (hpl : (backTo pos (starEach es X.env)).any (·.1) = false := by rfl)
  (ht : eval (.Call (.Attribute o m apos) (e :: es) [] pos) X.env = (do
   let ov ← eval o X.env
   standAt apos.atName
   let (f, first) ← holding [ov] (getMethod ov m pl)
   callWith pos f first (backTo pos (starEach (e :: es) X.env)) (backToKw pos (keywordEach [] X.env))) := by rfl) :
  PE X (.Call (.Attribute o m apos) (e :: es) [] pos) (Zvx C m sp dvs E ta t) := by
 intro pins s σ H Q I h
 refine PySem.W.methodCall_KW (pl := pl) (thn (he pins s σ H _ I h) fun u s1 ⟨x, H1, I1, rx, a, dx, fs, ex, ea, l, q⟩ => ?_) ht
 subst ex
 obtain rfl : u = Value.ref a := rx
 refine Zep I1 ea c hm l ?_
 refine PySem.W.callWith_K (first := [.ref a]) (h₀ := X.base) I.ok.mod.kin hm.kp (thn (ha pos pins s1 σ H1 _ I1 q) fun us s2 ⟨vs, H2, I2, r, q2⟩ => ⟨I2.kIn, ?_⟩) hst hpl
 exact Zrv (us := .ref a :: us) (vs := .ref a :: vs) F hr hb hd hx I2 (.cons rfl r) q2
theorem Ztc {pl : Sem Bool} (he : PE X o ta) (c : Cls X.K C) (hm : Meth X.K C m f) (F : FnOk X.prog X.w X.K X.mg X.base CX k f fd ps sp) (hr : Room k X.A) (hb : Zfe X.K fd ps ds) (hd : Za8 dvs ds) (hx : Zhd CX X E)
  (ht : eval (.Call (.Attribute o m apos) [] [] pos) X.env = (do
   let ov ← eval o X.env
   standAt apos.atName
   let (f, first) ← holding [ov] (getMethod ov m pl)
   callWith pos f first (backTo pos (starEach [] X.env)) (backToKw pos (keywordEach [] X.env))) := by rfl) :
  PE X (.Call (.Attribute o m apos) [] [] pos) (Zvx C m sp dvs E ta tNil) := by
 intro pins s σ H Q I h
 refine PySem.W.methodCall_KW (pl := pl) (thn (he pins s σ H _ I h) fun u s1 ⟨x, H1, I1, rx, a, dx, fs, ex, ea, l, q⟩ => ?_) ht
 subst ex
 obtain rfl : u = Value.ref a := rx
 refine Zep I1 ea c hm l ?_
 exact PySem.W.callWith_K0 (first := [.ref a]) I1.kIn hm.kp (Zrv (us := [.ref a]) (vs := [.ref a]) F hr hb hd hx I1 (.cons rfl .nil) q)
structure Mk (K : PySem.W.Frag) (C f : Addr) : Prop where
 makes : PySem.W.makesIn K C = true
 init : PySem.W.findIn K (.ref C) "__init__" = some (some (.ref f))
 fn : PySem.W.isFn K (.ref f) = true
 kp : PySem.W.keepIn K (.ref C) = true
theorem Zsx {pins : List (Addr × Obj)} {σ : St} {H : Hp} {s : Shared} {Q : VK} {us : List Value} {vs : List V} (M : Mk X.K C f) (F : FnOk X.prog X.w X.K X.mg X.base CX k f fd ps sp) (hr : Room (k + 1) X.A) (hb : Zfe X.K fd ps ds) (hd : Za8 dvs ds)
  (hx : Zhd CX X E) (I : Inv X pins σ H s) (r : Za8 vs us)
  (h : ∀ x dx, H x = none -> H dx = none -> dx ≠ x -> sp (.ref x :: (vs ++ dvs)) (upd (upd H dx (.own x)) x (.ins C dx [])) (fun v H2 => v = .non ∧ Q (.ref x) H2) E) :
  wpAny (model X.prog X.w) X.A (call (.ref C) us) (EP X pins σ Q) X.xe s := by
 have hq := h (s.heap.objs.size + 1) s.heap.objs.size (I.hok.fresh (Nat.le_succ _)) (I.hok.fresh (Nat.le_refl _)) (Nat.ne_of_lt (Nat.lt_succ_self _))
 have I2 := Inv.made (C := C) I
 have r2 : Za8 (V.ref (s.heap.objs.size + 1) :: (vs ++ dvs)) (Value.ref (s.heap.objs.size + 1) :: (us ++ ds)) := .cons rfl (r.append hd)
 have hl : (Value.ref (s.heap.objs.size + 1) :: us ++ ds).length = ps.length := by
  have e := r2.length
  rw [F.len _ _ _ _ hq] at e
  exact e.symm
 refine wpAny_call (Zum (f := f) I.kIn M.makes M.init (beq_iff_eq.mp M.fn) (codeAny_mono (F.run _ X.stack _ _ ⟨Value.ref (s.heap.objs.size + 1) :: us, []⟩ (Value.ref (s.heap.objs.size + 1) :: (us ++ ds)) _ _ E (hr.make C us [])
  (I2.env0.make C us []) (hb _ (Value.ref (s.heap.objs.size + 1) :: us) I2.kIn hl) r2 hq) fun r s' hq' => ?_))
 cases r with
 | error e => exact hx pins σ _ _ e s' I2 hq'
 | ok fl =>
  cases fl with
  | ret u =>
   obtain ⟨v, H', I3, rv, ev, q3⟩ := I2.after hq'
   subst ev
   exact ⟨rv, ⟨V.ref (s.heap.objs.size + 1), H', I3, rfl, q3⟩⟩
  | next => exact False.elim hq'
  | brk => exact False.elim hq'
  | cont => exact False.elim hq'
theorem Zxy (M : Mk X.K C f) (F : FnOk X.prog X.w X.K X.mg X.base CX k f fd ps sp) (hr : Room (k + 1) X.A) (hg : Gl X x) (hm : X.mg x = some (.ref C)) (hb : Zfe X.K fd ps ds) (hd : Za8 dvs ds) (hx : Zhd CX X E)
  (ha : PA X (e :: es) t) (hdb : (x == ("__debug__" : Str)) = false := by decide) (he : starEach (e :: es) X.env = (false, eval e X.env) :: starEach es X.env := by rfl) (hpl : (backTo pos (starEach es X.env)).any (·.1) = false := by rfl) :
  PE X (.Call (.Name x p) (e :: es) [] pos) (Zyk C sp dvs E t) := by
 intro pins s σ H Q I h
 refine wpAny_Call_Name_kw (Zh8 I hg hm ?_ hdb)
 refine PySem.W.callWith_K (h₀ := X.base) I.ok.mod.kin M.kp (thn (ha pos pins s σ H _ I h) fun us s1 ⟨vs, H1, I1, r, q⟩ => ⟨I1.kIn, ?_⟩) he hpl
 exact Zsx M F hr hb hd hx I1 r q
end
structure FnScope (N P : List Str) (sc : Scope) : Prop where
 kind : sc.kind = .function
 co : sc.isCoroutine = false
 gen : sc.isGenerator = false
 nd : N.Nodup
 pre : N.take P.length = P
 par : ∀ x ∈ P, sc.names.lookup x = some .local ∨ sc.names.lookup x = some .cell
 nofree : ∀ y ∈ sc.names, y.2 ≠ .free
theorem Zk6 {kindOf : Str -> Option NameKind} {x : Str} : ∀ {binds : List (Str × Value)} {m : Str -> Option Value}, (∀ v, (x, v) ∉ binds) -> bindL kindOf binds m x = m x
 | [], _, _ => rfl
 | (n, v) :: r, m, h => by
  unfold bindL
  rw [Zk6 fun w hw => h w (List.mem_cons_of_mem _ hw)]
  split
  ·have : x ≠ n := by rintro rfl; exact h v List.mem_cons_self
   simp [this]
  ·rfl
theorem Zlm {kindOf : Str -> Option NameKind} {x : Str} : ∀ {binds : List (Str × Value)} {m : Str -> Option Value}, (∀ v, (x, v) ∉ binds) -> bindC kindOf binds m x = m x
 | [], _, _ => rfl
 | (n, v) :: r, m, h => by
  unfold bindC
  rw [Zlm fun w hw => h w (List.mem_cons_of_mem _ hw)]
  split
  ·rfl
  ·have : x ≠ n := by rintro rfl; exact h v List.mem_cons_self
   simp [this]
theorem Zk5 {kindOf : Str -> Option NameKind} {x : Str} {v : Value} : ∀ {P : List Str} {vs : List Value} {i : Nat} {m : Str -> Option Value}, P.Nodup -> P[i]? = some x -> vs[i]? = some v -> kindOf x = some .local →
  bindL kindOf (P.zip vs) m x = some v
 | [], _, _, _, _, h, _, _ => by simp at h
 | _ :: _, [], _, _, _, _, h, _ => by simp at h
 | p :: P, w :: vs, 0, m, nd, h1, h2, hk => by
  simp at h1 h2; subst h1; subst h2
  show bindL kindOf ((p, w) :: P.zip vs) m p = _
  unfold bindL
  rw [Zk6 fun v hv => (List.nodup_cons.mp nd).1 (List.of_mem_zip hv).1, if_pos hk]
  simp
 | p :: P, w :: vs, i + 1, m, nd, h1, h2, hk => by
  show bindL kindOf ((p, w) :: P.zip vs) m x = _
  unfold bindL
  exact Zk5 (i := i) (List.nodup_cons.mp nd).2 (by simpa using h1) (by simpa using h2) hk
theorem Zkx {kindOf : Str -> Option NameKind} {x : Str} {v : Value} : ∀ {P : List Str} {vs : List Value} {i : Nat} {m : Str -> Option Value}, P.Nodup -> P[i]? = some x -> vs[i]? = some v -> kindOf x ≠ some .local →
  bindC kindOf (P.zip vs) m x = some v
 | [], _, _, _, _, h, _, _ => by simp at h
 | _ :: _, [], _, _, _, _, h, _ => by simp at h
 | p :: P, w :: vs, 0, m, nd, h1, h2, hk => by
  simp at h1 h2; subst h1; subst h2
  show bindC kindOf ((p, w) :: P.zip vs) m p = _
  unfold bindC
  rw [Zlm fun v hv => (List.nodup_cons.mp nd).1 (List.of_mem_zip hv).1, if_neg hk]
  simp
 | p :: P, w :: vs, i + 1, m, nd, h1, h2, hk => by
  show bindC kindOf ((p, w) :: P.zip vs) m x = _
  unfold bindC
  exact Zkx (i := i) (List.nodup_cons.mp nd).2 (by simpa using h1) (by simpa using h2) hk
noncomputable def start (N : List Str) (vs : List V) : St := vs.map some ++ List.replicate (N.length - vs.length) none
noncomputable def Ze2 (CX : CXT) (P : Program) (w : World) (K : PySem.W.Frag) (mg : Str -> Option Value) (base : Heap) (N : List Str) (qual : Str) (scope : Scope) (f : Addr) (cd : Value) (A : Around) (outer : List Env) (s : Shared) (H : Hp) (E : XK) : Cx where
 prog := P
 w := w
 K := K
 mg := mg
 base := base
 A := A.deeper (envOfC qual scope s.heap.objs.size f cd)
 N := N
 s₀ := s
 H₀ := H
 env := envOfC qual scope s.heap.objs.size f cd
 outer := outer
 stack := envOfC qual scope s.heap.objs.size f cd :: outer
 ex := []
 calm := true
 fn := fun _ => true
 pn := []
 xe := fun e s' => wpAny (model P w) (A.deeper (envOfC qual scope s.heap.objs.size f cd)) (leaving (envOfC qual scope s.heap.objs.size f cd) e) (fun _ s'' => CX outer H s E e s'') (fun e' s'' => CX outer H s E e' s'') s'
theorem Zji {sc : Scope} {n : Nat} {x : Str} (h : sc.names.lookup x = some .cell) : ∃ c, (cellsFrom n sc.names []).lookup x = some c := by
 have q := PySem.W.cellsFrom_some sc.names n [] (.inl h)
 exact Option.isSome_iff_exists.mp q
theorem Zq6 {CX : CXT} {P : Program} {w : World} {K : PySem.W.Frag} {mg : Str -> Option Value} {base : Heap} {N ps : List Str} {qual : Str} {scope : Scope} {f : Addr} {cd : Value} {A : Around} {outer : List Env} {s s1 : Shared} {H : Hp} {E : XK} {us : List Value} {vs : List V}
  (S : FnScope N ps scope) (hd : A.handled = none) (e0 : Env0 P w K mg base A outer s H) (hl : vs.length = ps.length) (r : Za8 vs us)
  (x : InCallC s s.heap.objs.size (bindL (envOfC qual scope s.heap.objs.size f cd).kindOf (ps.zip us) fun _ => none) (cellsFrom (s.heap.objs.size + 1) scope.names []) (bindC (envOfC qual scope s.heap.objs.size f cd).kindOf (ps.zip us) fun _ => none) s1) :
  Inv (Ze2 CX P w K mg base N qual scope f cd A outer s H E) [] (start N vs) H s1 := by
 have hpl : ps.length ≤ N.length := by have := congrArg List.length S.pre; rw [List.length_take] at this; omega
 obtain ⟨h1, tk, rfl, hk⟩ := x.done
 have noA : ∀ b : Addr, b ∉ (Ze2 CX P w K mg base N qual scope f cd A outer s H E).ex := fun b z => absurd (show b ∈ ([] : List Addr) from z) (by simp)
 refine ⟨⟨e0.mod, S.kind, rfl, rfl, Nat.le_refl _, fun y z c h1 h2 => ?_, fun y hy => ?_, fun y c _ h => ?_, fun _ => hd, Around.frames_deeper e0.frames, .inr ⟨rfl, rfl⟩, fun b z => absurd z (noA b), e0.bs, e0.bsz, fun b _ _ => noA b, fun b z => absurd z (noA b), e0.funs, e0.frf⟩,
  rfl, e0.bare, Un.kept hk, ⟨_, x.toInCall.ns, fun i y v h1 h2 h3 => ?_⟩, fun y c h => ⟨_, x.cell y c h⟩, e0.hok.fresh (Nat.le_refl _), fun y c h => ?_, fun p hp => absurd (show p ∈ ([] : List (Addr × Obj)) from hp) (by simp), e0.hok.kept hk, ?_⟩
 ·exact name_of_addr x.apart (PySem.mem_of_lookup h1) (PySem.mem_of_lookup h2)
 ·have hy : scope.names.lookup y = some .cell ∨ scope.names.lookup y = some .free := hy
  rcases hy with hy | hy
  ·exact Zji hy
  ·exact absurd rfl (S.nofree _ (PySem.mem_of_lookup hy))
 ·exact Nat.le_of_lt (x.above y c (PySem.mem_of_lookup h))
 ·have hi : i < vs.length := by
   unfold start at h2
   by_cases hi : i < vs.length
   ·exact hi
   ·rw [List.getElem?_append_right (by simpa using hi)] at h2
    rw [List.getElem?_replicate] at h2
    split at h2 <;> cases h2
  have ha : vs[i]? = some v := by
   unfold start at h2
   rw [List.getElem?_append_left (by simpa using hi), List.getElem?_map] at h2
   cases e : vs[i]? with
   | none => rw [e] at h2; cases h2
   | some a => rw [e] at h2; cases h2; rfl
  obtain ⟨u, hu, rv⟩ := r.get ha
  have hp : ps[i]? = some y := by
   rw [← S.pre, List.getElem?_take_of_lt (by omega)]; exact h1
  have ndP : ps.Nodup := by rw [← S.pre]; exact S.nd.sublist (List.take_sublist _ _)
  refine ⟨u, rv, ?_⟩
  rcases S.par y (List.mem_of_getElem? hp) with k | k
  ·exact .inl ⟨k, Zk5 ndP hp hu k⟩
  ·obtain ⟨c, e⟩ := Zji (n := s.heap.objs.size + 1) k
   refine .inr ⟨.inl k, c, e, ?_⟩
   have q := x.cell y c e
   rw [Zkx ndP hp hu (by show scope.names.lookup y ≠ _; rw [k]; decide)] at q
   exact q
 ·exact e0.hok.fresh (Nat.le_of_lt (x.above y c (PySem.mem_of_lookup h)))
 ·unfold start
  show _ = N.length
  rw [List.length_append, List.length_map, List.length_replicate]
  omega
theorem Zzu {CX : CXT} {P : Program} {w : World} {K : PySem.W.Frag} {mg : Str -> Option Value} {base : Heap} {k : Nat} {f : Addr} {name qual : Str} {params : Arguments} {body : List Stmt} {scope : Scope} {dV kV doc pm cdv ct oc : Value} {an od : Option Addr}
  {osl : Array (Option Value)} {N ps : List Str} {sp : Sp} (lk : K.lookup f = some ⟨oc, od, .func (PySem.W.fnOf name qual params body scope dV kV doc pm an cdv ct), osl⟩) (hcd : PySem.W.codeIn K cdv qual = true) (S : FnScope N ps scope)
  (len : ∀ vs H Q E, sp vs H Q E -> vs.length = ps.length)
  (hbody : ∀ (A : Around) (outer : List Env) (s : Shared) (H : Hp) (vs : List V) (Q : VK) (E : XK), Room k (A.deeper (envOfC qual scope s.heap.objs.size f cdv)) -> sp vs H Q E →
   ∃ t, PSs (Ze2 CX P w K mg base N qual scope f cdv A outer s H E) body t ∧ t { nx := fun _ H' => Q .non H', rt := Q } (start N vs) H) :
  FnOk P w K mg base CX (k + 1) f (PySem.W.fnOf name qual params body scope dV kV doc pm an cdv ct) ps sp := by
 refine ⟨len, fun A outer s H args us vs Q E hr e0 hb r hsp => ?_⟩
 have hl := len _ _ _ _ hsp
 have KX : K.In s.heap := e0.mod.kin.keeps fun b o e => (e0.bs b o e).1
 have lim : s.heap.NoLimit := e0.mod.nolimit.keeps fun b o e => (e0.bs b o e).1
 have hkind : ∀ y ∈ ps.zip us, scope.names.lookup y.1 = some .local ∨ (scope.names.lookup y.1 = some .cell ∧ ((cellsFrom (s.heap.objs.size + 1) scope.names []).lookup y.1).isSome = true) := fun ⟨n, v⟩ hy => by
  rcases S.par n (List.of_mem_zip hy).1 with q | q
  ·exact .inl q
  ·exact .inr ⟨q, PySem.W.cellsFrom_some _ _ _ (.inl q)⟩
 refine codeAny_call_function hr.depth (KX _ _ lk) rfl S.co S.gen rfl (PySem.W.codeRec_of KX hcd) (hb _ _ _ _ ?_)
 refine wpAny_newFunctionEnv_cells S.kind hkind fun env he s1 x => ?_
 subst he
 refine ⟨lim.keeps x.toInCall.keep, codeAny_func ?_⟩
 obtain ⟨t, ht, hq⟩ := hbody A outer s H vs Q E (hr.deeper _) hsp
 have I : Inv (Ze2 CX P w K mg base N qual scope f cdv A outer s H E) [] (start N vs) H s1 := Zq6 S hr.hd e0 hl r x
 refine wpAny_mono (ht [] s1 (start N vs) H _ I hq) (fun fl s' hs => ?_) fun e s' hs => hs
 have fin : ∀ {σ' : St} {H' : Hp} {v : V} {u : Value}, Inv (Ze2 CX P w K mg base N qual scope f cdv A outer s H E) [] σ' H' s' -> Zcn v u -> Q v H' -> CE outer P w H s Q u s' :=
  fun {σ' H' v u} J rv q => ⟨v, H', J.os, J.bare, J.base, J.hok, rv, q⟩
 cases fl with
 | ret u =>
  obtain ⟨v, σ', H', J, rv, q⟩ := hs
  exact fin J rv q
 | next =>
  obtain ⟨σ', H', J, q⟩ := hs
  exact fin (v := V.non) (u := Value.none) J rfl q
 | brk =>
  obtain ⟨_, _, _, q⟩ := hs
  exact False.elim q
 | cont =>
  obtain ⟨_, _, _, q⟩ := hs
  exact False.elim q
section
variable {X : Cx} {x : Str} {p pos : Pos} {e : Expr} {es : List Expr} {t : TA} {id T : String} {r : List V -> Hp -> VK -> Prop}
noncomputable def tCB (r : List V -> Hp -> VK -> Prop) (t : TA) : TE := fun σ H Q => t σ H fun vs H1 => r vs H1 Q
theorem Zhc (hc : Zgx X (.builtin id) r) (hg : Gl X x) (hm : X.mg x = none) (hv : bootBuiltins x = some (.builtin id)) (ha : PA X (e :: es) t) (hn : x ≠ "__name__" := by decide) (hdb : (x == ("__debug__" : Str)) = false := by decide)
  (he : starEach (e :: es) X.env = (false, eval e X.env) :: starEach es X.env := by rfl) (hpl : (backTo pos (starEach es X.env)).any (·.1) = false := by rfl) : PE X (.Call (.Name x p) (e :: es) [] pos) (tCB r t) := by
 intro pins s σ H Q I h
 refine wpAny_Call_Name_kw (Zhn I hg hm hv ?_ hn hdb)
 exact PyProof.Rows.callWith_builtin1 (thn (ha pos pins s σ H _ I h) fun us s1 ⟨vs, H1, I1, r1, q1⟩ => hc pins s1 σ H1 vs us Q I1 r1 q1) he hpl
theorem Zp9 (hc : Zgx X (.type T) r) (hg : Gl X x) (hm : X.mg x = none) (hv : bootBuiltins x = some (.type T)) (ha : PA X (e :: es) t) (hn : x ≠ "__name__" := by decide) (hdb : (x == ("__debug__" : Str)) = false := by decide)
  (he : starEach (e :: es) X.env = (false, eval e X.env) :: starEach es X.env := by rfl) (hpl : (backTo pos (starEach es X.env)).any (·.1) = false := by rfl) : PE X (.Call (.Name x p) (e :: es) [] pos) (tCB r t) := by
 intro pins s σ H Q I h
 refine wpAny_Call_Name_kw (Zhn I hg hm hv ?_ hn hdb)
 exact PyProof.Rows.callWith_type1 (thn (ha pos pins s σ H _ I h) fun us s1 ⟨vs, H1, I1, r1, q1⟩ => hc pins s1 σ H1 vs us Q I1 r1 q1) he hpl
end
end L2
namespace HT
open PySem PyProof.Rows
section
variable {prog : Program} {w : World} {A : Around} {E : Value -> Shared -> Prop} {s : Shared}
theorem cat_tup {t b : Addr} {vs ws : List Value} {Q : Value -> Shared -> Prop} (ht : IsTup s.heap t vs.toArray) (hb : IsTup s.heap b ws.toArray) (hv : vs ≠ [])
  (h1 : ws = [] → Q (.ref t) s) (h2 : ws ≠ [] → Q (.ref s.heap.objs.size) { s with heap := s.heap.push { cls := .type "tuple", data := .seq (vs ++ ws).toArray } })
  (hsz : vs.length + ws.length ≤ sizeLine) : wpAny (model prog w) A (binaryOp .Add (.ref t) (.ref b)) Q E s := by
 obtain ⟨⟨cls, dd, data, sl⟩, ho, hc, n, hd⟩ := id ht
 obtain ⟨⟨cls2, dd2, data2, sl2⟩, ho2, hc2, n2, hd2⟩ := id hb
 simp only at hc hd hc2 hd2
 subst hc hd hc2 hd2
 have e : vs.toArray ++ ws.toArray = (vs ++ ws).toArray := by simp
 by_cases hw : ws = []
 ·exact concat_meets ⟨_, ho, rfl⟩ ⟨_, ho2, rfl⟩ noFill_tuple_add seq_tuple_add PySem.F.slot_tuple_add PySem.F.entry_tuple_add (PySem.F.args_tuple_add_2 _ _)
   (tuple_addW1 t b vs.toArray ws.toArray n n2 dd dd2 sl sl2 (by simpa using hv) (by simp [hw])) ⟨ho, ho2, h1 hw⟩
 ·refine concat_meets ⟨_, ho, rfl⟩ ⟨_, ho2, rfl⟩ noFill_tuple_add seq_tuple_add PySem.F.slot_tuple_add PySem.F.entry_tuple_add (PySem.F.args_tuple_add_2 _ _)
   (tuple_addW2 t b vs.toArray ws.toArray n n2 dd dd2 sl sl2 (by simpa using hv) (by simpa using hw) (by rw [List.size_toArray, List.size_toArray]; exact hsz)) ⟨ho, ho2, ?_⟩
  rw [e]
  exact h2 hw
noncomputable def sIx (n d : Nat) : Option Int -> Nat
 | none => d
 | some v => if v < 0 then (v + (n : Int)).toNat else min v.toNat n
theorem Yad (n d : Nat) (hd : d ≤ n) (o : Option Int) : sIx n d o ≤ n := by
 cases o with
 | none => exact hd
 | some v =>
  show (if v < 0 then (v + (n : Int)).toNat else min v.toNat n) ≤ n
  by_cases hv : v < 0
  ·rw [if_pos hv]; omega
  ·rw [if_neg hv]; exact Nat.min_le_right _ _
theorem Zq2 (v : Int) (n d : Nat) : (if v < 0 then max (v + (n : Int)) 0 else min v (n : Int)) = ((sIx n d (some v) : Nat) : Int) := by
 show (if v < 0 then max (v + (n : Int)) 0 else min v (n : Int)) = (((if v < 0 then (v + (n : Int)).toNat else min v.toNat n) : Nat) : Int)
 by_cases hv : v < 0
 ·simp only [if_pos hv]; omega
 ·simp only [if_neg hv]; omega
theorem Zo8 (lo hi : Option Int) (n : Nat) : Builtin.Slice.sliceAdjust lo hi 1 (n : Int) = (((sIx n 0 lo : Nat) : Int), ((sIx n n hi : Nat) : Int)) := by
 have h1 : ¬ ((1 : Int) < 0) := by omega
 unfold Builtin.Slice.sliceAdjust
 simp only [h1, if_false]
 refine Prod.ext ?_ ?_
 ·cases lo with
  | none => rfl
  | some v => exact Zq2 v n 0
 ·cases hi with
  | none => rfl
  | some v => exact Zq2 v n n
theorem Zn8 (i j : Nat) : Builtin.Slice.slicePlaces (i : Int) (j : Int) 1 = j - i := by
 unfold Builtin.Slice.slicePlaces
 have h1 : (1 : Int) > 0 := by omega
 simp only [h1, if_true, Int.ediv_one]
 split <;> omega
theorem Zgf {v : Value} {o : Option Int} {Q : Option Int -> Shared -> Prop} (p : IsPart v o) (h : Q o s) : wpAny (model prog w) A (Builtin.Slice.slicePartIndex v) Q E s := by
 cases p with
 | none => exact slicePart_none h
 | int i t => exact slicePart_int h
theorem sliceApplied_gen {sl : Addr} {vl vu : Value} {lo hi : Option Int} {n : Nat} {Q : Int × Int × Nat -> Shared -> Prop} (hs : s.heap.IsSliceOf sl vl vu .none) (pl : IsPart vl lo) (pu : IsPart vu hi)
  (h : Q (((sIx n 0 lo : Nat) : Int), 1, sIx n n hi - sIx n 0 lo) s) : wpAny (model prog w) A (Builtin.Slice.sliceApplied (.ref sl) (pure (n : Int))) Q E s := by
 obtain ⟨os, hos, hcs, hds⟩ := id hs
 unfold Builtin.Slice.sliceApplied Builtin.Slice.sliceFields
 refine wpAny_bind (wpAny_bind (wpAny_field hos hds (x := vl) rfl (wpAny_bind (wpAny_field hos hds (x := vu) rfl (wpAny_bind (wpAny_field hos hds (x := .none) rfl (wpAny_pure ?_)))))))
 refine wpAny_bind (slicePart_none ?_)
 show wpAny _ _ (if ((1 : Int) == 0) = true then _ else _) _ _ s
 rw [if_neg (by decide)]
 refine wpAny_bind (Zgf pl (wpAny_bind (Zgf pu (wpAny_bind (wpAny_pure ?_)))))
 show wpAny _ _ (match Builtin.Slice.sliceAdjust lo hi 1 (n : Int) with | (lo, hi) => pure (lo, (1 : Int), Builtin.Slice.slicePlaces lo hi 1)) _ _ s
 rw [Zo8 lo hi n]
 show wpAny _ _ (pure (((sIx n 0 lo : Nat) : Int), (1 : Int), Builtin.Slice.slicePlaces ((sIx n 0 lo : Nat) : Int) ((sIx n n hi : Nat) : Int) 1)) _ _ s
 rw [Zn8]
 exact wpAny_pure h
theorem Ztn (xs : Array Value) (i k : Nat) : ((List.range k).filterMap fun (m : Nat) => xs[((i : Int) + (m : Int) * 1).toNat]?).toArray = ((xs.toList.drop i).take k).toArray := by
 have e : (fun (m : Nat) => xs[((i : Int) + (m : Int) * 1).toNat]?) = fun m => xs[i + m]? := by
  funext m
  have : ((i : Int) + (m : Int) * 1).toNat = i + m := by omega
  rw [this]
 rw [e]
 have := pick_run xs i k
 rw [List.filterMap_map] at this
 have e2 : ((fun x => xs[x]?) ∘ fun x => i + x) = fun m => xs[i + m]? := rfl
 rw [e2] at this
 rw [this]
theorem getItem_tuple_cut {t sl : Addr} {items : Array Value} {vl vu : Value} {lo hi : Option Int} {Q : Value -> Shared -> Prop} (ht : IsTup s.heap t items) (hs : s.heap.IsSliceOf sl vl vu .none) (pl : IsPart vl lo) (pu : IsPart vu hi)
  (hw : ¬ (sIx items.size 0 lo = 0 ∧ sIx items.size items.size hi = items.size))
  (h : Q (.ref s.heap.objs.size) { s with heap := s.heap.push { cls := .type "tuple", data := .seq ((items.toList.drop (sIx items.size 0 lo)).take (sIx items.size items.size hi - sIx items.size 0 lo)).toArray } })
  (hsz : items.size ≤ sizeLine) : wpAny (model prog w) A (getItem (.ref t) (.ref sl)) Q E s := by
 have htake : sizeOk (.seq ((items.toList.drop (sIx items.size 0 lo)).take (sIx items.size items.size hi - sIx items.size 0 lo)).toArray) := by
  show ((items.toList.drop (sIx items.size 0 lo)).take (sIx items.size items.size hi - sIx items.size 0 lo)).toArray.size ≤ sizeLine
  rw [List.size_toArray, List.length_take, List.length_drop, Array.length_toList]
  omega
 have hj : sIx items.size items.size hi ≤ items.size := Yad _ _ (Nat.le_refl _) hi
 obtain ⟨os, hos, hcs, hds⟩ := id hs
 have hTs : s.TypeIs (.ref sl) "slice" := ⟨os, hos, hcs⟩
 unfold getItem
 try with_reducible refine wpAny_holding ?_
 first | refine wpAny_bind (wpAny_pure ?_) | skip
 refine wpAny_bind (wpAny_sequenceKey ht.typeIs (by decide) ?_)
 refine wpAny_bind (wpAny_callSpecial?_slot (name := Str.ofString "__getitem__") ht.typeIs PyProof.Rows.slot_tuple_getitem
  (wpAny_call_entry PyProof.Rows.slot_tuple_getitem ht.typeIs entry_tuple_getitem ?_ (args_tuple_getitem _ _)))
 show wpAny _ _ (Builtin.Tuple.tupleItemsOf (.ref t) >>= _) _ _ s
 refine wpAny_bind (tupleItemsOf_ ht ?_)
 refine wpAny_bind (wpAny_typeOf hTs ?_)
 rw [if_pos (by decide)]
 refine wpAny_bind (sliceApplied_gen hs pl pu ?_)
 have hno : ¬ ((((sIx items.size 0 lo : Nat) : Int) == 0 && (1 : Int) == 1 && (sIx items.size items.size hi - sIx items.size 0 lo) == items.size) = true) := by
  intro q
  rw [Bool.and_eq_true, Bool.and_eq_true] at q
  have q1 : ((sIx items.size 0 lo : Nat) : Int) = 0 := eq_of_beq q.1.1
  have q2 : sIx items.size items.size hi - sIx items.size 0 lo = items.size := eq_of_beq q.2
  exact hw ⟨by omega, by omega⟩
 show wpAny _ _ (if (((sIx items.size 0 lo : Nat) : Int) == 0 && (1 : Int) == 1 && (sIx items.size items.size hi - sIx items.size 0 lo) == items.size) = true then _ else _) _ _ s
 rw [if_neg hno, Ztn]
 first
  | exact wpAny_bind (m := Builtin.Tuple.tupleExact _) (wpAny_newObj_type (wpAny_pure ⟨_, rfl, wpAny_pure h⟩) htake)
  | exact wpAny_bind (m := Builtin.Tuple.tupleExact _) (wpAny_newObj_type (wpAny_bind (wpAny_pure (wpAny_pure ⟨_, rfl, wpAny_pure h⟩))) htake)
  | exact wpAny_bind (wpAny_bind (m := Builtin.Tuple.tupleExact _) (wpAny_newObj_type (wpAny_pure (wpAny_pure ⟨_, rfl, wpAny_pure h⟩)) htake))
  | exact wpAny_bind (wpAny_bind (m := Builtin.Tuple.tupleExact _) (wpAny_newObj_type (wpAny_pure ⟨_, rfl, wpAny_pure h⟩) htake))
end
end HT
namespace L2
open PySem PySem.Spec PyProof.Rows
noncomputable abbrev TO := St -> Hp -> (Option Int -> Hp -> Prop) -> Prop
noncomputable def PO (X : Cx) (e : Option Expr) (t : TO) : Prop :=
 ∀ (pins : List (Addr × Obj)) (s : Shared) (σ : St) (H : Hp) (Q : Option Int -> Hp -> Prop), Inv X pins σ H s -> t σ H Q →
  wpAny (model X.prog X.w) X.A (evalPart e X.env) (fun u s' => ∃ o H', Inv X pins σ H' s' ∧ IsPart u o ∧ Q o H') X.xe s
noncomputable def Zwu : TO := fun _ H Q => Q none H
noncomputable def tPart (t : TE) : TO := fun σ H Q => t σ H fun x H1 => ∃ i, x = .int i ∧ Q (some i) H1
section
variable {X : Cx} {e : Expr} {te : TE} {lo hi : Option Expr} {tl th : TO} {pos p2 : Pos}
theorem Zv6 : PO X none Zwu := by
 intro pins s σ H Q I h
 rw [evalPart_none]
 exact wpAny_pure ⟨none, H, I, .none, h⟩
theorem Zv0 (h : PE X e te) : PO X (some e) (tPart te) := by
 intro pins s σ H Q I hw
 rw [evalPart_some]
 refine thn (h pins s σ H _ I hw) fun u s1 zz => ?_
 obtain ⟨x, H1, I1, r1, q1⟩ := zz
 obtain ⟨i, rfl, q⟩ := q1
 obtain ⟨t, rfl⟩ := r1
 exact ⟨some i, H1, I1, .int i t, q⟩
noncomputable def SlR (X : Cx) (r : V -> Option Int -> Option Int -> Hp -> VK -> Prop) : Prop :=
 ∀ (pins : List (Addr × Obj)) (s : Shared) (σ : St) (H : Hp) (x : V) (v vl vu : Value) (lo hi : Option Int) (sl : Addr) (Q : VK), Inv X pins σ H s -> Zcn x v -> s.heap.IsSliceOf sl vl vu .none -> IsPart vl lo -> IsPart vu hi -> r x lo hi H Q →
  ∃ T id, typeLookup (.type T) "__getitem__" = pure (some (.builtin id)) ∧ s.TypeIs v T ∧ wpAny (model X.prog X.w) X.A (getItem v (.ref sl)) (EP X pins σ Q) X.xe s
noncomputable def tSl (r : V -> Option Int -> Option Int -> Hp -> VK -> Prop) (te : TE) (tl th : TO) : TE := fun σ H Q => te σ H fun x H1 => tl σ H1 fun l H2 => th σ H2 fun u H3 => r x l u H3 Q
theorem Zsr {r : V -> Option Int -> Option Int -> Hp -> VK -> Prop} (hr : SlR X r) (he : PE X e te) (hl : PO X lo tl) (hu : PO X hi th) : PE X (.Subscript e (.Slice lo hi none p2) pos) (tSl r te tl th) := by
 intro pins s σ H Q I h
 refine Subscript_ (thn (he pins s σ H _ I h) fun v s1 zz => ?_)
 obtain ⟨x, H1, I1, r1, q1⟩ := zz
 refine wpAny_Slice (thn (hl pins s1 σ H1 _ I1 q1) fun vl s2 ⟨l, H2, I2, pl, q2⟩ => thn (hu pins s2 σ H2 _ I2 q2) fun vu s3 zz => ?_)
 obtain ⟨u, H3, I3, pu, q3⟩ := zz
 rw [evalPart_none]
 refine wpAny_pure ?_
 have I4 : Inv X pins σ H3 { s3 with heap := s3.heap.push { cls := .type "slice", data := .fields #[vl, vu, .none] } } := I3.kept (t' := s3.toks) fun b ob q => Heap.get?_push_of_some _ q
 obtain ⟨T, id, hT, ht, hg⟩ := hr pins { s3 with heap := s3.heap.push { cls := .type "slice", data := .fields #[vl, vu, .none] } } σ H3 x v vl vu l u s3.heap.objs.size Q I4 r1 (Heap.IsSliceOf.new ..) pl pu q3
 show wpAny (model X.prog X.w) X.A (subscriptTail e (.Slice lo hi none p2) v (.ref s3.heap.objs.size)) (EP X pins σ Q) X.xe { s3 with heap := s3.heap.push { cls := .type "slice", data := .fields #[vl, vu, .none] } }
 exact tail_any (ops := [.ref s3.heap.objs.size, v]) ht hT hg (by with_unfolding_all rfl)
noncomputable def Zu6 (xs : List V) (lo hi : Option Int) : List V := (xs.drop (HT.sIx xs.length 0 lo)).take (HT.sIx xs.length xs.length hi - HT.sIx xs.length 0 lo)
theorem Zd7 (xs : List V) (lo hi : Option Int) : (Zu6 xs lo hi).length ≤ xs.length := by
 unfold Zu6
 rw [List.length_take, List.length_drop]
 omega
noncomputable def rSlT (K : PySem.W.Frag) : V -> Option Int -> Option Int -> Hp -> VK -> Prop := fun x lo hi H Q => ∃ a xs, x = .ref a ∧ SqT K H a xs ∧
 ¬ (HT.sIx xs.length 0 lo = 0 ∧ HT.sIx xs.length xs.length hi = xs.length) ∧ ∀ p, H p = none -> Q (.ref p) (upd H p (.tup (Zu6 xs lo hi)))
theorem Zze : SlR X (rSlT X.K) := by
 intro pins s σ H x v vl vu lo hi sl Q I rx hs pl pu h
 obtain ⟨a, xs, rfl, hx, hw, q⟩ := h
 cases rx
 obtain ⟨its, r, ht, hz⟩ := I.tuple hx
 have hlen : its.toArray.size = xs.length := by rw [List.size_toArray]; exact r.length.symm
 refine ⟨"tuple", _, PyProof.Rows.slot_tuple_getitem.lookup, ht.typeIs, ?_⟩
 refine HT.getItem_tuple_cut ht hs pl pu (by rw [hlen]; exact hw) ?_ (by rw [hlen]; exact hz)
 rw [hlen]
 refine ⟨.ref s.heap.objs.size, _, I.laid (t' := s.toks) (o := .tup (Zu6 xs lo hi)) (fun b ob q => Heap.get?_push_of_some _ q) (Nat.le_refl _) ?_, rfl, q _ (I.hok.fresh (Nat.le_refl _))⟩
 exact ⟨Nat.le_trans (Zd7 xs lo hi) hz, _, (r.drop (HT.sIx xs.length 0 lo)).take (HT.sIx xs.length xs.length hi - HT.sIx xs.length 0 lo), Zil.new _ _⟩
noncomputable def rCatT (K : PySem.W.Frag) : R2 := fun x y H Q => ∃ a b xs ys, x = .ref a ∧ y = .ref b ∧ SqT K H a xs ∧ SqT K H b ys ∧ xs ≠ [] ∧ xs.length + ys.length ≤ sizeLine ∧
 (ys = [] -> Q (.ref a) H) ∧ (ys ≠ [] -> ∀ p, H p = none -> Q (.ref p) (upd H p (.tup (xs ++ ys))))
theorem Za8.nil_iff {xs : List V} {us : List Value} (r : Za8 xs us) : us = [] ↔ xs = [] := by
 cases r with
 | nil => simp
 | cons _ _ => simp
theorem Zr9 : OpR X (binaryOp .Add) (rCatT X.K) := by
 intro pins s σ H x y v u Q I rx ry h
 obtain ⟨a, b, xs, ys, rfl, rfl, ha, hb, hx, hz, q1, q2⟩ := h
 cases rx
 cases ry
 obtain ⟨its, r1, p1, _⟩ := I.tuple ha
 obtain ⟨its2, r2, p2, _⟩ := I.tuple hb
 refine HT.cat_tup p1 p2 (fun z => hx (r1.nil_iff.mp z)) (fun z => ⟨.ref a, H, I, rfl, q1 (r2.nil_iff.mp z)⟩) (fun z => ?_) (by rw [← r1.length, ← r2.length]; exact hz)
 refine ⟨.ref s.heap.objs.size, _, I.laid (t' := s.toks) (o := .tup (xs ++ ys)) (fun b ob q => Heap.get?_push_of_some _ q) (Nat.le_refl _) ?_, rfl, q2 (fun w => z (r2.nil_iff.mpr w)) _ (I.hok.fresh (Nat.le_refl _))⟩
 exact ⟨by rw [List.length_append]; exact hz, _, r1.append r2, Zil.new _ _⟩
end
noncomputable def ixN (n : Nat) (i : Int) : Option Nat := if 0 ≤ i then (if i < n then some i.toNat else none) else if -(n : Int) ≤ i then some (i + n).toNat else none
noncomputable def atI {α : Type} (xs : List α) (i : Int) : Option α := (ixN xs.length i).bind fun j => xs[j]?
theorem Zpe {n : Nat} {i : Int} {j : Nat} (h : ixN n i = some j) : seqIndex? i n = some j ∧ j < n ∧ -(n : Int) ≤ i ∧ i < n := by
 unfold ixN at h
 by_cases h0 : 0 ≤ i
 ·rw [if_pos h0] at h
  by_cases h1 : i < n
  ·rw [if_pos h1] at h
   have e : i.toNat = j := Option.some.inj h
   exact ⟨by rw [seqIndex_of h0 h1, e], by omega, by omega, h1⟩
  ·rw [if_neg h1] at h; cases h
 ·rw [if_neg h0] at h
  by_cases h1 : -(n : Int) ≤ i
  ·rw [if_pos h1] at h
   have e : (i + n).toNat = j := Option.some.inj h
   exact ⟨by rw [seqIndex_neg (by omega) h1, e], by omega, h1, by omega⟩
  ·rw [if_neg h1] at h; cases h
theorem Zpi {α : Type} {xs : List α} {i : Int} {v : α} (h : atI xs i = some v) : ∃ j, seqIndex? i xs.length = some j ∧ xs[j]? = some v ∧ j < xs.length ∧ -(xs.length : Int) ≤ i ∧ i < xs.length := by
 unfold atI at h
 cases e : ixN xs.length i with
 | none => rw [e] at h; cases h
 | some j =>
  rw [e] at h
  obtain ⟨h1, h2, h3, h4⟩ := Zpe e
  exact ⟨j, h1, h, h2, h3, h4⟩
theorem Zaz {α : Type} {xs : List α} {j : Nat} {v : α} (h : xs[j]? = some v) : atI xs (j : Int) = some v := by
 have hj : j < xs.length := (List.getElem?_eq_some_iff.mp h).1
 have e : ixN xs.length (j : Int) = some j := by
  unfold ixN
  rw [if_pos (by omega), if_pos (by omega)]; simp
 unfold atI; rw [e]; exact h
noncomputable def Zsj (b : Expr) : Prop := ∀ o i, subscripted b false o i = operate [o, i] (getItem o i)
noncomputable def IxR (X : Cx) (r : R2) : Prop :=
 ∀ (value slice : Expr) (pins : List (Addr × Obj)) (s : Shared) (σ : St) (H : Hp) (x y : V) (v u : Value) (Q : VK), Inv X pins σ H s -> Zcn x v -> Zcn y u -> r x y H Q →
  subscripted slice false v u = operate [v, u] (getItem v u) -> wpAny (model X.prog X.w) X.A (subscriptTail value slice v u) (EP X pins σ Q) X.xe s
noncomputable def MtR (X : Cx) (id : String) (r : V -> List V -> Hp -> VK -> Prop) : Prop :=
 ∀ (pins : List (Addr × Obj)) (s : Shared) (σ : St) (H : Hp) (x : V) (xs : List V) (v : Value) (us : List Value) (Q : VK), Inv X pins σ H s -> Zcn x v -> Za8 xs us -> r x xs H Q →
  wpAny (model X.prog X.w) X.A (call (.builtin id) (v :: us)) (EP X pins σ Q) X.xe s
section
variable {X : Cx} {a b : Expr} {ta tb : TE} {pos : Pos}
theorem pe_ix {r : R2} (hr : IxR X r) (ha : PE X a ta) (hb : PE X b tb) (hs : Zsj b) : PE X (.Subscript a b pos) (tOp r ta tb) := by
 intro pins s σ H Q I h
 exact Subscript_ (binT ha hb I h fun v u s2 x y H2 I2 rx ry q => hr a b pins s2 σ H2 x y v u Q I2 rx ry q (hs _ _))
noncomputable def rIxL (K : PySem.W.Frag) : R2 := fun x y H Q => ∃ p xs i v, x = .ref p ∧ y = .int i ∧ SqL K H p xs ∧ atI xs i = some v ∧ Q v H
noncomputable def rIxT (K : PySem.W.Frag) : R2 := fun x y H Q => ∃ p xs i v, x = .ref p ∧ y = .int i ∧ SqT K H p xs ∧ atI xs i = some v ∧ Q v H
theorem Zxm : IxR X (rIxL X.K) := by
 intro value slice pins s σ H x y v u Q I rx ry h hs
 obtain ⟨p, xs, i, z, rfl, rfl, hq, he, q⟩ := h
 cases rx
 obtain ⟨t, rfl⟩ := ry
 obtain ⟨its, r, pl, hz⟩ := I.list hq
 obtain ⟨j, h1, h2, h3, h4, h5⟩ := Zpi he
 obtain ⟨w, ew, rw'⟩ := r.get h2
 have hl := r.length
 have hn := Zjd
 have fin : EP X pins σ Q w s := ⟨z, H, I, rw', q⟩
 by_cases h0 : 0 ≤ i
 ·have hj : i.toNat = j := by
   rw [seqIndex_of h0 h5] at h1
   exact Option.some.inj h1
  exact item_listR pl.isList h0 (by omega) (by rw [hj]; simpa using ew) fin hs
 ·have hj : (i + (its.toArray.size : Int)).toNat = j := by
   rw [seqIndex_neg (by omega) h4] at h1
   rw [List.size_toArray, ← hl]
   exact Option.some.inj h1
  exact subscriptTail_builtinR (x := w) pl.isList.typeIs slot_list_getitem.lookup
   (wpAny_getItem_list_neg (Q := fun r s' => r = w ∧ EP X pins σ Q r s') pl.isList (by omega) (by rw [List.size_toArray] <;> omega) (by omega) (by rw [hj]; simpa using ew) ⟨rfl, fin⟩) hs
theorem Zy0 : IxR X (rIxT X.K) := by
 intro value slice pins s σ H x y v u Q I rx ry h hs
 obtain ⟨p, xs, i, z, rfl, rfl, hq, he, q⟩ := h
 cases rx
 obtain ⟨t, rfl⟩ := ry
 obtain ⟨its, r, pl, hz⟩ := I.tuple hq
 obtain ⟨j, h1, h2, h3, h4, h5⟩ := Zpi he
 obtain ⟨w, ew, rw'⟩ := r.get h2
 have hl := r.length
 have hn := Zjd
 have fin : EP X pins σ Q w s := ⟨z, H, I, rw', q⟩
 exact subscriptTail_builtinR (x := w) pl.typeIs slot_tuple_getitem.lookup
  (getItem_tuple (j := j) (Q := fun r s' => r = w ∧ EP X pins σ Q r s') pl (by omega) (by omega) (by rw [List.size_toArray, ← hl]; exact h1) (by simpa using ew) ⟨rfl, fin⟩) hs
theorem Zn9 (its : List Value) (n j : Nat) (u : Value) : Obj.mapSeq (·.setIfInBounds j u) { cls := .type "list", data := .seq its.toArray n } = { cls := .type "list", data := .seq (its.set j u).toArray n } := by
 simp [Obj.mapSeq]
theorem Inv.lst {pins : List (Addr × Obj)} {σ : St} {H : Hp} {s : Shared} {p : Addr} {xs : List V} (I : Inv X pins σ H s) (h : H p = some (.lst xs)) :
  ∃ (its : List Value) (n : Nat), Za8 xs its ∧ s.heap.get? p = some { cls := .type "list", data := .seq its.toArray n } ∧ xs.length ≤ sizeLine := by
 obtain ⟨z, its, n, r, e⟩ := I.hok p _ h
 exact ⟨its, n, r, e, z⟩
theorem Inv.lstUpd {pins : List (Addr × Obj)} {σ : St} {H : Hp} {s : Shared} {p : Addr} {xs ys : List V} {its its' : List Value} {n n' : Nat} {f : Obj -> Obj} (I : Inv X pins σ H s) (h : H p = some (.lst xs))
  (ho : s.heap.get? p = some { cls := .type "list", data := .seq its.toArray n }) (hf : f { cls := .type "list", data := .seq its.toArray n } = { cls := .type "list", data := .seq its'.toArray n' }) (r : Za8 ys its') (hz : ys.length ≤ sizeLine) (t : Nat) :
  Inv X pins σ (upd H p (.lst ys)) { s with heap := s.heap.update p f, toks := t } := by
 have e : (s.heap.update p f).get? p = some { cls := .type "list", data := .seq its'.toArray n' } := by
  rw [Heap.get?_update_self f ho (by rw [hf] <;> rfl), hf]
 refine I.write (x := p) (e := p) (by rw [h]; trivial) (.inl rfl) (fun b u hb q => (Heap.get?_update_other _ _ (Ne.symm hb)).trans q) ⟨_, e⟩ ?_
 exact ⟨hz, its', n', r, e⟩
noncomputable def rSetL : V -> V -> V -> Hp -> (Hp -> Prop) -> Prop := fun o i v H Q => ∃ p xs k j, o = .ref p ∧ i = .int k ∧ H p = some (.lst xs) ∧ ixN xs.length k = some j ∧ Q (upd H p (.lst (xs.set j v)))
theorem Zug : PSet X rSetL := by
 intro pins s σ H o i v ov iv u Q I ro ri rv h
 obtain ⟨p, xs, k, j, rfl, rfl, hp, hj, q⟩ := h
 cases ro
 obtain ⟨t, rfl⟩ := ri
 obtain ⟨its, n, r, ho, hz⟩ := I.lst hp
 obtain ⟨h1, h2, h3, h4⟩ := Zpe hj
 have hl := r.length
 have hn := Zjd
 have I' : Inv X pins σ (upd H p (.lst (xs.set j v))) { s with heap := s.heap.update p (Obj.mapSeq (·.setIfInBounds j u)) } :=
  I.lstUpd hp ho (Zn9 its n j u) (r.set rv j) (by rw [List.length_set]; exact hz) s.toks
 by_cases h0 : 0 ≤ k
 ·have hk : k.toNat = j := by
   rw [seqIndex_of h0 h4] at h1
   exact Option.some.inj h1
  exact PySem.W.ki_setAt ho h0 (by omega) (by rw [List.size_toArray, ← hl]; exact h4) (by rw [hk]; exact ⟨_, I', q⟩)
 ·have hk : (k + (its.toArray.size : Int)).toNat = j := by
   rw [seqIndex_neg (by omega) h3] at h1
   rw [List.size_toArray, ← hl]
   exact Option.some.inj h1
  exact PySem.W.ki_setBack ho (by omega) (by rw [List.size_toArray, ← hl]; exact h3) (by omega) (by rw [hk]; exact ⟨_, I', q⟩)
theorem Zkq (lo hi : Option Int) (n : Nat) : (sliceBounds lo hi none n).1 = ((HT.sIx n 0 lo : Nat) : Int) ∧ (sliceBounds lo hi none n).2.1 = ((HT.sIx n n hi : Nat) : Int) ∧ (sliceBounds lo hi none n).2.2 = 1 := by
 refine ⟨?_, ?_, rfl⟩
 ·cases lo with
  | none => simp [sliceBounds, HT.sIx]
  | some i =>
   simp only [sliceBounds, HT.sIx, Option.getD_none, show (1 : Int) > 0 by decide, if_true]
   by_cases h : i < 0
   ·simp only [h, if_true] <;> omega
   ·simp only [h, if_false] <;> omega
 ·cases hi with
  | none => simp [sliceBounds, HT.sIx]
  | some i =>
   simp only [sliceBounds, HT.sIx, Option.getD_none, show (1 : Int) > 0 by decide, if_true]
   by_cases h : i < 0
   ·simp only [h, if_true] <;> omega
   ·simp only [h, if_false] <;> omega
theorem Zjn (its : List Value) (lo hi : Option Int) : slicePick its.toArray lo hi none = ((its.drop (HT.sIx its.length 0 lo)).take (HT.sIx its.length its.length hi - HT.sIx its.length 0 lo)).toArray := by
 obtain ⟨h1, h2, h3⟩ := Zkq lo hi its.toArray.size
 unfold slicePick
 rw [h1, h2, h3]
 simp only [sliceRange_one, pick_run, List.size_toArray] <;> rfl
noncomputable def rSlL (K : PySem.W.Frag) : V -> Option Int -> Option Int -> Hp -> VK -> Prop := fun x lo hi H Q => ∃ a xs, x = .ref a ∧ SqL K H a xs ∧ ∀ p, H p = none -> Q (.ref p) (upd H p (.lst (Zu6 xs lo hi)))
theorem Zxb : SlR X (rSlL X.K) := by
 intro pins s σ H x v vl vu lo hi sl Q I rx hs pl pu h
 obtain ⟨a, xs, rfl, hx, q⟩ := h
 cases rx
 obtain ⟨its, r, ht, hz⟩ := I.list hx
 have hlen := r.length
 refine ⟨"list", _, slot_list_getitem.lookup, ht.isList.typeIs, ?_⟩
 refine wpAny_getItem_list_slice ht.isList hs pl pu .none (by simp) ?_ (by rw [List.size_toArray] <;> omega)
 rw [Zjn, ← hlen]
 refine ⟨.ref s.heap.objs.size, _, I.laid (t' := s.toks) (o := .lst (Zu6 xs lo hi)) (fun b ob q => Heap.get?_push_of_some _ q) (Nat.le_refl _) ?_, rfl, q _ (I.hok.fresh (Nat.le_refl _))⟩
 exact ⟨Nat.le_trans (Zd7 xs lo hi) hz, _, 0, (r.drop (HT.sIx xs.length 0 lo)).take (HT.sIx xs.length xs.length hi - HT.sIx xs.length 0 lo), Heap.get?_push_size _ rfl⟩
theorem Zks : Zgx X (.builtin "len") (fun xs H Q => ∃ p ys, xs = [.ref p] ∧ (SqL X.K H p ys ∨ SqT X.K H p ys) ∧ Q (.int ys.length) H) := by
 intro pins s σ H xs us Q I r h
 obtain ⟨p, ys, rfl, hq, q⟩ := h
 obtain ⟨u, rfl, rx⟩ := Zir r
 cases rx
 have hn := Zjd
 rcases hq with hq | hq
 ·obtain ⟨its, r', pl, hz⟩ := I.list hq
  have hlen := r'.length
  exact Calls.call_len_list pl.isList (by simp only [List.size_toArray] <;> omega) ⟨.int ys.length, H, I.tok _, ⟨s.toks + 1, by rw [List.size_toArray, hlen]⟩, q⟩
 ·obtain ⟨its, r', pl, hz⟩ := I.tuple hq
  have hlen := r'.length
  exact len_tuple pl (by simp only [List.size_toArray] <;> omega) ⟨.int ys.length, H, I.tok _, ⟨s.toks + 1, by rw [List.size_toArray, hlen]⟩, q⟩
theorem Zle : Zgx X (.builtin "len") (fun xs H Q => ∃ z, xs = [.str z] ∧ z.length ≤ sizeLine ∧ Q (.int z.length) H) := by
 intro pins s σ H xs us Q I r h
 obtain ⟨z, rfl, hz, q⟩ := h
 obtain ⟨u, rfl, t, rfl⟩ := Zir r
 have hn := Zjd
 exact len_str (by omega) ⟨.int z.length, H, I.tok _, ⟨_, rfl⟩, q⟩
theorem Zky : Zgx X (.type "list") (fun xs H Q => ∃ p ys, xs = [.ref p] ∧ (SqL X.K H p ys ∨ SqT X.K H p ys) ∧ ∀ l, H l = none → Q (.ref l) (upd H l (.lst ys))) := by
 intro pins s σ H xs us Q I r h
 obtain ⟨p, ys, rfl, hq, q⟩ := h
 obtain ⟨u, rfl, rx⟩ := Zir r
 cases rx
 have fin : ∀ (its : List Value), Za8 ys its -> ys.length ≤ sizeLine -> ∀ (h' : Heap) (c' : Nat), (∀ b o', s.heap.get? b = some o' -> h'.get? b = some o') →
   h'.get? s.heap.objs.size = some { cls := .type "list", dict := none, data := .seq its.toArray c', slots := #[] } → EP X pins σ Q (.ref s.heap.objs.size) { s with heap := h' } := fun its r' hz h' c' kp e =>
  ⟨.ref s.heap.objs.size, _, I.laid (t' := s.toks) kp (Nat.le_refl _) (show Zdb X.prog X.w _ h' _ (.lst ys) from ⟨hz, its, c', r', e⟩), rfl, q _ (I.hok.fresh (Nat.le_refl _))⟩
 rcases hq with hq | hq
 ·obtain ⟨its, r', pl, hz⟩ := I.list hq
  have hlen := r'.length
  obtain ⟨o, ho, hc, n, hd⟩ := pl.isList
  exact call_list_seq p (.inl rfl) ho hc hd (fun h' c' kp e => fin its r' hz h' c' kp e) (by simp only [List.size_toArray] <;> omega)
 ·obtain ⟨its, r', pl, hz⟩ := I.tuple hq
  have hlen := r'.length
  obtain ⟨o, ho, hc, n, hd⟩ := pl
  exact call_list_seq p (.inr rfl) ho hc hd (fun h' c' kp e => fin its r' hz h' c' kp e) (by simp only [List.size_toArray] <;> omega)
theorem Zkd : Zgx X (.type "tuple") (fun xs H Q => ∃ p ys, xs = [.ref p] ∧ ((SqL X.K H p ys ∧ ∀ l, H l = none → Q (.ref l) (upd H l (.tup ys))) ∨ (SqT X.K H p ys ∧ Q (.ref p) H))) := by
 intro pins s σ H xs us Q I r h
 obtain ⟨p, ys, rfl, h⟩ := h
 obtain ⟨u, rfl, rx⟩ := Zir r
 cases rx
 rcases h with ⟨hq, q⟩ | ⟨hq, q⟩
 ·obtain ⟨its, r', pl, hz⟩ := I.list hq
  have hlen := r'.length
  refine call_tuple_list pl.isList (fun h' kp => ?_) (by simp only [List.size_toArray] <;> omega)
  have I1 : Inv X pins σ H { s with heap := h' } := I.kept (t' := s.toks) kp
  have I2 : Inv X pins σ (upd H h'.objs.size (.tup ys)) { s with heap := h'.push { cls := .type "tuple", data := .seq its.toArray } } :=
   I1.laid (t' := s.toks) (fun b o e => Heap.get?_push_of_some _ e) (Nat.le_refl _) (show Zdb X.prog X.w _ _ _ (.tup ys) from ⟨hz, its, r', Zil.new _ _⟩)
  exact ⟨.ref h'.objs.size, _, I2, rfl, q _ (I1.hok.fresh (Nat.le_refl _))⟩
 ·obtain ⟨its, r', pl, hz⟩ := I.tuple hq
  exact call_tuple_same pl ⟨.ref p, H, I, rfl, q⟩
noncomputable def tyV (K : PySem.W.Frag) (T : String) (x : V) (H : Hp) : Prop := match x with
 | .str _ => T = "str"
 | .int _ => T = "int"
 | .ref p => (T = "list" ∧ ∃ xs, SqL K H p xs) ∨ (T = "tuple" ∧ ∃ o, K.lookup p = some o ∧ o.cls = .type "tuple" ∧ o.dict = none) ∨
   (T = "dict" ∧ ((∃ kvs, H p = some (.dK kvs)) ∨ ∃ kvs, H p = some (.dT kvs))) ∨ (T = "set" ∧ ∃ S n, H p = some (.set S n))
 | _ => False
theorem Zvh {pins : List (Addr × Obj)} {σ : St} {H : Hp} {s : Shared} {T : String} {x : V} {v : Value} (I : Inv X pins σ H s) (r : Zcn x v) (ty : tyV X.K T x H) :
  s.TypeIs v T ∧ ∀ a, v = .ref a -> ∃ ob, s.heap.get? a = some ob ∧ ob.dict = none := by
 cases x with
 | str z =>
  obtain ⟨t, rfl⟩ := r
  cases (show T = "str" from ty)
  exact ⟨typeIs_str s z t, fun _ e => nomatch e⟩
 | int i =>
  obtain ⟨t, rfl⟩ := r
  cases (show T = "int" from ty)
  exact ⟨typeIs_int s i t, fun _ e => nomatch e⟩
 | ref p =>
  cases r
  rcases ty with ⟨rfl, xs, hq⟩ | ⟨rfl, o, hk, hc, hd⟩ | ⟨rfl, hk⟩ | ⟨rfl, S, n, hk⟩
  ·obtain ⟨its, _, pl, _⟩ := I.list hq
   refine ⟨pl.isList.typeIs, fun a e => ?_⟩
   cases e
   obtain ⟨o, n, e, c, hd, _⟩ := pl
   exact ⟨o, e, hd⟩
  ·refine ⟨⟨o, I.kIn p o hk, hc⟩, fun a e => ?_⟩
   cases e
   exact ⟨o, I.kIn _ o hk, hd⟩
  ·have z : ∃ o, s.heap.get? p = some o ∧ o.ExactDict := by
    rcases hk with ⟨kvs, hk⟩ | ⟨kvs, hk⟩
    ·obtain ⟨_, _, _, _, o, _, _, e, ex, _⟩ := I.hok p _ hk
     exact ⟨o, e, ex⟩
    ·obtain ⟨_, _, _, _, o, _, _, e, ex, _⟩ := I.hok p _ hk
     exact ⟨o, e, ex⟩
   obtain ⟨o, e, ex⟩ := z
   refine ⟨⟨o, e, ex.1⟩, fun a e2 => ?_⟩
   cases e2
   exact ⟨o, e, ex.2.1⟩
  ·obtain ⟨o, _, _, _, e, ex, _⟩ := I.hok p _ hk
   refine ⟨⟨o, e, ex.1⟩, fun a e2 => ?_⟩
   cases e2
   exact ⟨o, e, ex.2.1⟩
 | _ => exact False.elim ty
noncomputable def tBM0 (K : PySem.W.Frag) (T : String) (r : V -> List V -> Hp -> VK -> Prop) (to : TE) : TE := fun σ H Q => to σ H fun x H1 => tyV K T x H1 ∧ r x [] H1 Q
noncomputable def tBM (K : PySem.W.Frag) (T : String) (r : V -> List V -> Hp -> VK -> Prop) (to : TE) (t : TA) : TE := fun σ H Q => to σ H fun x H1 => tyV K T x H1 ∧ t σ H1 fun xs H2 => r x xs H2 Q
variable {o e : Expr} {es : List Expr} {to : TE} {t : TA} {name : Str} {apos cpos : Pos} {T id : String} {r : V -> List V -> Hp -> VK -> Prop}
theorem Zyg (pa : PlainAttrs T) (slot : Slot T name id) (hty : typeOf (.builtin id) = pure (.type "method_descriptor")) (hm : MtR X id r) (ho : PE X o to)
  (hbase : attributeBase o name X.env (eval o X.env) = eval o X.env := by rfl) (hline : (apos.endLine == cpos.line) = true := by rfl) : PE X (.Call (.Attribute o name apos) [] [] cpos) (tBM0 X.K T r to) := by
 intro pins s σ H Q I h
 refine wpAny_Call_method0_late hbase hline (thn (ho pins s σ H _ I h) fun v s1 zz => ?_)
 obtain ⟨x, H1, I1, r1, ty, q1⟩ := zz
 obtain ⟨h1, h2⟩ := Zvh I1 r1 ty
 exact ⟨T, id, pa, slot, hty, h1, h2, Calls.callWith_builtin rfl (PySem.evalArgs_none (hm pins s1 σ H1 x [] v [] Q I1 r1 .nil q1))⟩
theorem pe_bm (pa : PlainAttrs T) (slot : Slot T name id) (hty : typeOf (.builtin id) = pure (.type "method_descriptor")) (hm : MtR X id r) (ho : PE X o to) (ha : PA X (e :: es) t)
  (hbase : attributeBase o name X.env (eval o X.env) = eval o X.env := by rfl)
  (hfew : ((backTo cpos (starEach (e :: es) X.env)).all (fun x => !x.1) && (backToKw cpos (keywordEach [] X.env)).all (fun x => x.1.isSome)
   && decide ((e :: es).length + ([] : List Keyword).length + (if ([] : List Keyword).isEmpty then 0 else 1) < 30)) = true := by rfl)
  (hline : (apos.endLine == cpos.line) = true := by rfl) (hs : starEach (e :: es) X.env = (false, eval e X.env) :: starEach es X.env := by rfl) (hplain : (backTo cpos (starEach es X.env)).any (·.1) = false := by rfl) :
  PE X (.Call (.Attribute o name apos) (e :: es) [] cpos) (tBM X.K T r to t) := by
 intro pins s σ H Q I h
 refine wpAny_Call_method_late hbase hfew hline rfl (thn (ho pins s σ H _ I h) fun v s1 zz => ?_)
 obtain ⟨x, H1, I1, r1, ty, q1⟩ := zz
 obtain ⟨h1, h2⟩ := Zvh I1 r1 ty
 refine ⟨T, id, pa, slot, hty, h1, h2, ?_⟩
 have hA := ha cpos pins s1 σ H1 _ I1 q1
 rw [hs] at hA ⊢
 refine Calls.callWith_builtin (by show (false || (backTo cpos (starEach es X.env)).any (·.1)) = false; rw [hplain] <;> rfl) (Calls.evalArgs_plain ?_)
 exact thn hA fun us s2 ⟨vs, H2, I2, r2, q2⟩ => hm pins s2 σ H2 x vs v us Q I2 r1 r2 q2
end
noncomputable def MtM (X : Cx) (id : String) (r : V -> List V -> Hp -> VK -> Prop) : Prop :=
 ∀ (pins : List (Addr × Obj)) (s : Shared) (σ : St) (H : Hp) (x : V) (xs : List V) (v : Value) (us : List Value) (Q : VK), Inv X pins σ H s -> Zcn x v -> Za8 xs us -> r x xs H Q →
  wpAny (model X.prog X.w) X.A (call (.builtin id) (v :: us)) (EP X pins σ Q) X.xe s
theorem Za8.one : ∀ {x : V} {us : List Value}, Za8 [x] us -> ∃ u, us = [u] ∧ Zcn x u := by
 intro x us h
 cases h with
 | cons r t => cases t; exact ⟨_, rfl, r⟩
theorem Za8.zero : ∀ {us : List Value}, Za8 [] us -> us = []
 | _, .nil => rfl
theorem Za8.dropLast {xs : List V} {us : List Value} (h : Za8 xs us) : Za8 xs.dropLast us.dropLast := by
 induction h with
 | nil => exact .nil
 | cons r t ih =>
  cases t with
  | nil => exact .nil
  | cons q t' => exact .cons r ih
theorem Za8.eraseIdx : ∀ {xs : List V} {us : List Value} (i : Nat), Za8 xs us -> Za8 (xs.eraseIdx i) (us.eraseIdx i)
 | _, _, _, .nil => .nil
 | _, _, 0, .cons _ t => t
 | _, _, i + 1, .cons r t => .cons r (Za8.eraseIdx i t)
theorem Za8.reverse {xs : List V} {us : List Value} (h : Za8 xs us) : Za8 xs.reverse us.reverse := by
 induction h with
 | nil => exact .nil
 | cons r t ih => rw [List.reverse_cons, List.reverse_cons]; exact Za8.append ih (.cons r .nil)
theorem Za8.rep {xs : List V} {us : List Value} (h : Za8 xs us) : ∀ k : Nat, Za8 (List.replicate k xs).flatten (List.replicate k us).flatten
 | 0 => .nil
 | k + 1 => by
  rw [List.replicate_succ, List.replicate_succ, List.flatten_cons, List.flatten_cons]
  exact Za8.append h (Za8.rep h k)
theorem Zoa {α : Type} (l : List α) : l.eraseIdx (l.length - 1) = l.dropLast := by
 induction l with
 | nil => rfl
 | cons a r ih =>
  cases r with
  | nil => rfl
  | cons b r =>
   have e : (a :: b :: r).length - 1 = ((b :: r).length - 1) + 1 := by
    have h1 : (a :: b :: r).length = r.length + 2 := rfl
    have h2 : (b :: r).length = r.length + 1 := rfl
    omega
   rw [e, List.eraseIdx_cons_succ, ih]
   all_goals rfl
theorem Zlt {α : Type} : ∀ (l : List α) (i : Nat), (l.eraseIdx i).length ≤ l.length
 | [], _ => Nat.le_refl _
 | _ :: _, 0 => Nat.le_succ _
 | _ :: r, i + 1 => Nat.succ_le_succ (Zlt r i)
theorem Zhi (its : List Value) : ∀ (k : Nat) (acc : List Value),
  List.foldl (fun x1 x2 => x1 ++ x2) acc.toArray (List.replicate k its.toArray) = (acc ++ (List.replicate k its).flatten).toArray
 | 0, acc => by simp
 | k + 1, acc => by
  have e : acc.toArray ++ its.toArray = (acc ++ its).toArray := by simp
  have e2 : (acc ++ its) ++ (List.replicate k its).flatten = acc ++ (List.replicate (k + 1) its).flatten := by
   rw [List.replicate_succ, List.flatten_cons, List.append_assoc]
  rw [← e2, ← Zhi its k (acc ++ its), ← e, List.replicate_succ, List.foldl_cons]
section
variable {X : Cx} {pins : List (Addr × Obj)} {σ : St} {H : Hp} {s : Shared} {l b : Addr} {xs ys zs : List V}
theorem Inv.lset {its its' : List Value} {n : Nat} {f : Array Value -> Array Value} {t' : Nat} (I : Inv X pins σ H s) (hH : H l = some (.lst xs))
  (e : s.heap.get? l = some { cls := .type "list", data := .seq its.toArray n }) (hf : f its.toArray = its'.toArray) (hv : Za8 ys its') (hz : ys.length ≤ sizeLine) :
  Inv X pins σ (upd H l (.lst ys)) { s with heap := s.heap.update l (Obj.mapSeq f), toks := t' } := by
 have q := PySem.IsL.update e f
 rw [hf] at q
 refine I.write (x := l) (e := l) (by rw [hH]; exact trivial) (.inl rfl) (fun b' u hb hu => (Heap.get?_update_other s.heap (Obj.mapSeq f) (Ne.symm hb)).trans hu) ⟨_, q⟩ ?_
 exact ⟨hz, its', _, hv, q⟩
theorem Inv.lnew {its : List Value} {t' : Nat} (I : Inv X pins σ H s) (hv : Za8 ys its) (hz : ys.length ≤ sizeLine) :
  Inv X pins σ (upd H s.heap.objs.size (.lst ys)) { s with heap := s.heap.push { cls := .type "list", data := .seq its.toArray }, toks := t' } :=
 I.laid (fun _ _ q => Heap.get?_push_of_some _ q) (Nat.le_refl _) ⟨hz, its, 0, hv, Heap.get?_push_size _ rfl⟩
theorem Inv.fresh (I : Inv X pins σ H s) : H s.heap.objs.size = none := I.hok.fresh (Nat.le_refl _)
theorem Inv.lstM (I : Inv X pins σ H s) (hH : H l = some (.lst xs)) : xs.length ≤ sizeLine ∧ ∃ (its : List Value) (n : Nat), Za8 xs its ∧ xs.length = its.length ∧ s.heap.get? l = some { cls := .type "list", data := .seq its.toArray n } := by
 obtain ⟨z, its, n, r, e⟩ := I.hok l _ hH
 exact ⟨z, its, n, r, r.length, e⟩
theorem Zuk {n : Nat} (h : n ≤ sizeLine) : Builtin.List.listTooLong n = false := by
 unfold Builtin.List.listTooLong
 exact decide_eq_false (by omega)
end
section
variable {X : Cx}
noncomputable def Zwc : V -> List V -> Hp -> VK -> Prop := fun x vs H Q => ∃ l xs y, x = .ref l ∧ vs = [y] ∧ H l = some (.lst xs) ∧ xs.length < sizeLine ∧ Q .non (upd H l (.lst (xs ++ [y])))
theorem Zk1 : MtM X "list.append" Zwc := by
 intro pins s σ H x vs v us Q I rx rv h
 obtain ⟨l, xs, y, rfl, rfl, hH, hz, q⟩ := h
 cases rx
 obtain ⟨u, rfl, ru⟩ := rv.one
 obtain ⟨z, its, n, r, hl, e⟩ := I.lstM hH
 refine call_meets F.slot_list_append ⟨_, e, rfl⟩ F.entry_list_append (F.args_list_append_2 _ _) (PySem.list_append l its.toArray n u (by rw [List.size_toArray]; omega)) ⟨e, ?_⟩
 refine ⟨.non, _, I.lset (its' := its ++ [u]) hH e (by simp) (r.append (.cons ru .nil)) ?_, rfl, q⟩
 rw [List.length_append, List.length_singleton]
 omega
noncomputable def rPop : V -> List V -> Hp -> VK -> Prop := fun x vs H Q => ∃ l xs y, x = .ref l ∧ vs = [] ∧ H l = some (.lst xs) ∧ xs[xs.length - 1]? = some y ∧ Q y (upd H l (.lst xs.dropLast))
theorem Zyr : MtM X "list.pop" rPop := by
 intro pins s σ H x vs v us Q I rx rv h
 obtain ⟨l, xs, y, rfl, rfl, hH, hy, q⟩ := h
 cases rx
 have hus := rv.zero
 subst hus
 obtain ⟨z, its, n, r, hl, e⟩ := I.lstM hH
 obtain ⟨u, hu, ru⟩ := r.get hy
 have hy' : its.toArray[its.toArray.size - 1]? = some u := by
  show its.toArray[its.length - 1]? = some u
  rw [← Array.getElem?_toList, ← hl]
  exact hu
 refine call_meets F.slot_list_pop ⟨_, e, rfl⟩ F.entry_list_pop (F.args_list_pop_1 _) (MeetsSeq.list_pop_last l its.toArray n u hy' (by rw [List.size_toArray]; omega)) ⟨e, ?_⟩
 refine ⟨y, _, I.lset (its' := its.dropLast) hH e ?_ r.dropLast ?_, ru, q⟩
 ·show its.toArray.eraseIdxIfInBounds (its.toArray.size - 1) = its.dropLast.toArray
  rw [List.size_toArray, List.eraseIdxIfInBounds_toArray, Zoa]
 ·rw [List.length_dropLast]
  omega
noncomputable def Yaw : V -> List V -> Hp -> VK -> Prop := fun x vs H Q => ∃ l xs i k y, x = .ref l ∧ vs = [.int i] ∧ H l = some (.lst xs) ∧ -(2 ^ 63) ≤ i ∧ i < 2 ^ 63 ∧ seqIndex? i xs.length = some k ∧ xs[k]? = some y ∧ Q y (upd H l (.lst (xs.eraseIdx k)))
theorem Zth : MtM X "list.pop" Yaw := by
 intro pins s σ H x vs v us Q I rx rv h
 obtain ⟨l, xs, i, k, y, rfl, rfl, hH, h1, h2, hk, hy, q⟩ := h
 cases rx
 obtain ⟨u, rfl, ru⟩ := rv.one
 obtain ⟨t, rfl⟩ := ru
 obtain ⟨z, its, n, r, hl, e⟩ := I.lstM hH
 obtain ⟨w, hw, rw'⟩ := r.get hy
 refine call_meets F.slot_list_pop ⟨_, e, rfl⟩ F.entry_list_pop (F.args_list_pop_2 _ _)
  (MeetsSeq.list_pop_at l its.toArray n i t k w (fitsIndex_both h1 h2) (by rw [List.size_toArray, ← hl]; exact hk) (by rw [← Array.getElem?_toList]; exact hw) (by rw [List.size_toArray]; omega)) ⟨e, ?_⟩
 refine ⟨y, _, I.lset (its' := its.eraseIdx k) hH e ?_ (r.eraseIdx k) ?_, rw', q⟩
 ·show its.toArray.eraseIdxIfInBounds k = (its.eraseIdx k).toArray
  rw [List.eraseIdxIfInBounds_toArray]
 ·have := Zlt xs k
  omega
noncomputable def rCat : R2 := fun x y H Q => ∃ l b xs zs, x = .ref l ∧ y = .ref b ∧ H l = some (.lst xs) ∧ H b = some (.lst zs) ∧ xs.length + zs.length ≤ sizeLine ∧ ∀ p, H p = none -> Q (.ref p) (upd H p (.lst (xs ++ zs)))
theorem Zyo : OpR X (binaryOp .Add) rCat := by
 intro pins s σ H x y v u Q I rx ry h
 obtain ⟨l, b, xs, zs, rfl, rfl, hH, hB, hz, q⟩ := h
 cases rx
 cases ry
 obtain ⟨z, its, n, r, hl, e⟩ := I.lstM hH
 obtain ⟨z2, its2, n2, r2, hl2, e2⟩ := I.lstM hB
 refine PySem.P.add_list e e2 ?_ (by rw [List.size_toArray, List.size_toArray]; omega)
 have ea : its.toArray ++ its2.toArray = (its ++ its2).toArray := by simp
 rw [ea]
 exact ⟨.ref _, _, I.lnew (t' := s.toks) (r.append r2) (by rw [List.length_append]; omega), rfl, q _ I.fresh⟩
noncomputable def rRep : R2 := fun x y H Q => ∃ l k xs, x = .ref l ∧ y = .int k ∧ H l = some (.lst xs) ∧ -(2 ^ 63) ≤ k ∧ k < 2 ^ 63 ∧ xs.length * k.toNat ≤ sizeLine ∧
 ∀ p, H p = none -> Q (.ref p) (upd H p (.lst (List.replicate k.toNat xs).flatten))
theorem Zmt {α : Type} (xs : List α) (k : Nat) : (List.replicate k xs).flatten.length = k * xs.length := by
 induction k with
 | zero => simp
 | succ k ih => rw [List.replicate_succ, List.flatten_cons, List.length_append, ih, Nat.succ_mul, Nat.add_comm]
theorem Zyn : OpR X (binaryOp .Mult) rRep := by
 intro pins s σ H x y v u Q I rx ry h
 obtain ⟨l, k, xs, rfl, rfl, hH, h1, h2, hz, q⟩ := h
 cases rx
 obtain ⟨t, rfl⟩ := ry
 obtain ⟨z, its, n, r, hl, e⟩ := I.lstM hH
 have hlen : its.toArray.size * k.toNat ≤ sizeLine := by rw [List.size_toArray, ← hl]; exact hz
 have hcap : ¬ its.toArray.size * k.toNat > (2 ^ 63 - 1) / 8 := by
  have : (sizeLine : Nat) ≤ (2 ^ 63 - 1) / 8 := by decide
  omega
 have hfit : ¬ (!Builtin.List.listFitsIndex k) = true := by
  rw [fitsIndex_both h1 h2]
  exact Bool.false_ne_true
 have hlong : ¬ Builtin.List.listTooLong (its.toArray.size * k.toNat) = true := by
  rw [Zuk hlen]
  exact Bool.false_ne_true
 have hnew : List.foldl (fun x1 x2 => x1 ++ x2) #[] (List.replicate (if its.toArray.isEmpty = true then 0 else k.toNat) its.toArray) = (List.replicate k.toNat its).flatten.toArray := by
  have f0 : ∀ m : Nat, List.foldl (fun x1 x2 => x1 ++ x2) #[] (List.replicate m its.toArray) = (List.replicate m its).flatten.toArray := fun m => by
   have := Zhi its m []
   rw [List.nil_append] at this
   exact this
  rw [f0]
  cases its with
  | nil => simp
  | cons a r' => rw [if_neg (by simp)]
 refine wpAny_binaryOp_repeat_ref (T := "list") (U := "int") (by decide) ⟨_, e, rfl⟩ (fun s' => typeIs_int s' k t) noFill_list_mul F.fills_int_mul F.slot_int_rmul repeat_list F.slot_int_index.lookup
  (call_meets F.slot_int_rmul (typeIs_int s k t) F.entry_int_rmul (F.args_int_rmul_2 _ _) (int___rmul___int_list k t l its.toArray n)
   ⟨e, rfl, ⟨_, e, rfl⟩, call_meets F.slot_list_mul ⟨_, e, rfl⟩ F.entry_list_mul (F.args_list_mul_2 _ _) (AutoListH.list___mul___list_int_3 l its.toArray n k t hfit hcap hlong) ⟨e, ?_⟩⟩)
 rw [hnew]
 exact ⟨.ref _, _, I.lnew (t' := s.toks) (r.rep k.toNat) (by rw [Zmt, Nat.mul_comm]; exact hz), rfl, q _ I.fresh⟩
end
section
variable {prog : Program} {w : World} {A : Around} {E : Value -> Shared -> Prop} {s : Shared}
set_option maxRecDepth 100000 in
end
end L2
namespace Att
open PySem PySem.W PySem.Calls PyProof.Rows
theorem Zh1 {P : Params} {h : Heap} : ∀ (ns : List Int) (vs : List Value), WellAll P h vs (ns.map WData.int) -> IntsAre vs ns := by
 intro ns
 induction ns with
 | nil =>
  intro vs w
  rw [List.map_nil] at w
  cases w
  exact .nil
 | cons n ns ih =>
  intro vs w
  rw [List.map_cons] at w
  cases w with
  | cons a b =>
   cases a
   exact .cons _ _ (ih _ b)
theorem Zpf {l : OpenLaw} {n : Nat} (hn : l.most = some n) {P : Params} {h : Heap} {args : List WData} {vals : List Value}
  (hpre : l.row.toRowW.claim.pre args = true) (hwl : WellAll P h vals args) :
  ∃ a vs ns, vals = [Value.ref a] ∧ args = [WData.list (ns.map WData.int)] ∧ h.get? a = some { cls := .type "list", data := .seq vs.toArray } ∧ IntsAre vs ns ∧ ns.length ≤ n := by
 have hsh : WShape.hasAll [] args [.list .int] = true := (pre_splitW hpre).1
 have hc : l.pre.holds [] { args := args } = true := (pre_splitW hpre).2
 obtain ⟨d, r, rfl, h1, h2⟩ := hasAllW_cons hsh
 obtain rfl := hasAllW_nil h2
 obtain ⟨xs, rfl, h3⟩ := hasW_list h1
 obtain ⟨ns, rfl⟩ := items_int h3
 have hlen : ns.length ≤ n := by
  unfold OpenLaw.pre at hc
  have h4 : (WTm.not (.lt (.lit (.int (n : Int))) (.len (.arg 0)))).holds [] { args := [.list (ns.map .int)] } = true := by
   have h4 := (holds_andW hc).1
   rw [hn] at h4
   exact h4
  have h5 := condW_of h4 (w_not (w_lt w_lit (w_len_list (w_arg rfl))))
  rw [List.length_map] at h5
  refine Nat.le_of_not_lt fun q => ?_
  have q' : (n : Int) < ((ns.length : Nat) : Int) := by omega
  first
   | (rw [decide_eq_true q'] at h5; exact absurd h5 (by decide))
   | (simp at h5; omega)
 cases hwl with
 | cons w1 w2 =>
  cases w2
  cases w1 with
  | list ho hall => exact ⟨_, _, ns, rfl, rfl, ho, Zh1 ns _ hall, hlen⟩
theorem Zqo (l : OpenLaw) (args : List WData) : l.row.toRowW.claim.post args (.bool true) args = true :=
 postW_of (r := l.row.toRowW) (X := (true == true))
  (show WShape.has [] (.bool true) .bool = true by first | rfl | decide | simp [WShape.has, WShape.arms, WShape.armsAll])
  (show (WTm.eq .res (.lit (.bool true))).value [] { args := args, res := some (.bool true), after := args } = some (.bool (true == true)) from w_eq_bool (w_res rfl) w_lit) rfl
theorem attach_call {l : OpenLaw} {n : Nat} {q : Program} {loose : List Str} {XP : (Str -> Option Value) -> Heap -> Prop} {YP : World -> Heap -> Prop} {d : DefRec}
  (hn : l.most = some n) (hdf : d.params.defaults = [])
  (call : ∀ (w : World) (s₀ s₁ : Shared) (mg mb : Str -> Option Value) (fa : Addr) (o : Obj) (pm cd doc : Value) (a : Addr) (vs : List Value) (ns : List Int),
   Ground q loose [] XP w s₀ mg mb s₁.heap -> YP w s₁.heap →
   s₁.heap.get? fa = some o -> o.data = .func (docDef d.name d.params d.body d.scope pm cd doc) -> s₁.heap.CodeRec cd d.name -> mg d.name = some (.ref fa) →
   s₁.heap.get? a = some { cls := .type "list", data := .seq vs.toArray } → IntsAre vs ns → ns.length ≤ n → s₁.gens = #[] →
   codeAny (model l.prog w) callerA (.call (.ref fa) ⟨[.ref a], []⟩) (fun r s' => r = .ok (.ret (.bool true)) ∧ OldK s₁.heap s'.heap ∧ s'.os = s₁.os ∧ AllBare s'.gens) s₁) :
  WalkO q loose XP YP l.row.toRowW d [] (fun f vs => PySem.call f vs) := by
 intro w s₀ s₁ mg mb G Y fa o pm cd doc dV kV ho hd hcd hD hmg hg args vals as hpre hlay hrd hwl hlo
 obtain rfl : dV = .none := Dflts.none hD hdf
 obtain rfl : kV = .none := Dflts.noKw hD
 obtain ⟨a, vs, ns, rfl, rfl, hobj, hints, hlen⟩ := Zpf hn hpre hwl
 refine enter_call (codeAny_mono (call w s₀ s₁ mg mb fa o pm cd doc a vs ns G Y ho (fd_plain hd) hcd hmg hobj hints hlen hg) fun r s' hq => ?_)
 obtain ⟨rfl, h2, h3, h4⟩ := hq
 exact ⟨.inl ⟨.bool true, .bool true, [], rfl, fun _ => rfl, .bool true, Zqo l _, fun _ => ⟨List.Pairwise.nil, fun _ hm => (nomatch hm)⟩⟩, h2, h3, h4⟩
end Att
namespace L2
open PySem PySem.Spec PyProof.Rows
theorem Zla : ∀ {vs : List Value} {ns : List Int}, IntsAre vs ns -> Za8 (ns.map V.int) vs
 | _, _, .nil => .nil
 | _, _, .cons n t h => .cons ⟨t, rfl⟩ (Zla h)
noncomputable def Zys (H : Hp) : Prop := ∀ b, H b = none ∨ ∃ o xs, H b = some (.frz o (.lst xs))
theorem Zt4 {P : Program} {w : World} {K : PySem.W.Frag} {mg mb : Str -> Option Value} {CX : CXT} {k : Nat} {fa a : Addr} {fd : FuncData} {x : Str} {sp : Sp} {s₁ : Shared} {vs : List Value} {ns : List Int}
  (KX : K.In s₁.heap) (hns : s₁.heap.Ns mainGlobals mg) (hb : s₁.heap.Ns builtinsNs mb) (hbb : ∀ x : Str, x ≠ "__name__" → mb x = bootBuiltins x) (hlim : s₁.heap.NoLimit) (hg : s₁.gens = #[])
  (ha : s₁.heap.get? a = some { cls := .type "list", data := .seq vs.toArray }) (hi : IntsAre vs ns) (hl : ns.length ≤ sizeLine) (hr : Room k callerA)
  (F : ∀ base : Heap, K.In base -> base.Ns mainGlobals mg -> FnOk P w K mg base CX k fa fd [x] sp) (hbind : ∀ (s : Shared) (u : Value), BindsTo s fd ⟨[u], []⟩ [(x, u)])
  (hsp : ∀ H : Hp, Zys H -> SqL K H a (ns.map V.int) -> sp [.ref a] H (fun v _ => v = .bl true) fun _ _ _ => False)
  (hCX : ∀ H e s', CX [] H s₁ (fun _ _ _ => False) e s' -> False) :
  codeAny (model P w) callerA (.call (.ref fa) ⟨[.ref a], []⟩) (fun r s' => r = .ok (.ret (.bool true)) ∧ OldK s₁.heap s'.heap ∧ s'.os = s₁.os ∧ AllBare s'.gens) s₁ := by
 have rv := Zla hi
 have lenV := hi.length
 -- from an abstract heap in which nothing but the script may be tracked
 have core : ∀ H : Hp, Zys H -> SqL K H a (ns.map V.int) -> HOk P w H s₁.heap -> (∀ b, H b ≠ none -> b = a) -> (H a ≠ none -> K.lookup a = none) →
   codeAny (model P w) callerA (.call (.ref fa) ⟨[.ref a], []⟩) (fun r s' => r = .ok (.ret (.bool true)) ∧ OldK s₁.heap s'.heap ∧ s'.os = s₁.os ∧ AllBare s'.gens) s₁ := by
  intro H hO hS hok hA hK
  have base_of : ∀ {b : Addr} {o : Obj}, s₁.heap.get? b = some o -> H b = none -> (Zub s₁.heap H).get? b = some o := fun e n => Ztx e n
  have noA : ∀ {b : Addr} {o : Obj} {es : Array DictEntry} {ep : Nat}, s₁.heap.get? b = some o -> o.data = .dict es ep -> H b = none := fun {b o es ep} e d => by
   cases q : H b with
   | none => rfl
   | some u =>
    have e' : b = a := hA b (by rw [q]; simp)
    subst e'
    rw [ha] at e; cases e
    have d' : Data.seq vs.toArray _ = Data.dict es ep := d
    cases d'
  have nsK : ∀ {b : Addr} {m : Str -> Option Value}, s₁.heap.Ns b m -> (Zub s₁.heap H).Ns b m := fun {b m} ⟨o, es, ep, e, d, r⟩ => ⟨o, es, ep, base_of e (noA e d), d, r⟩
  have hKb : K.In (Zub s₁.heap H) := fun b o e => base_of (KX b o e) (by
   cases q : H b with
   | none => rfl
   | some u =>
    have e' : b = a := hA b (by rw [q]; simp)
    subst e'
    rw [hK (by rw [q]; simp)] at e; cases e)
  have hM : Mod K mg (Zub s₁.heap H) := ⟨hKb, nsK hns, ⟨mb, nsK hb, hbb⟩, let ⟨mc, h1, h2⟩ := hlim; ⟨mc, nsK h1, h2⟩⟩
  have e0 : Env0 P w K mg (Zub s₁.heap H) callerA [] s₁ H := ⟨rfl, hM, fun b o e => Zwy e, Nat.le_of_eq (Zph _ _), trivial, fun b hb => absurd (show b ∈ ([] : List Addr) from hb) (by simp), hok, .of_eq hg⟩
  refine codeAny_mono ((F _ hKb (nsK hns)).run callerA [] s₁ H ⟨[.ref a], []⟩ [.ref a] [.ref a] _ _ hr e0 (hbind s₁ (.ref a)) (.cons rfl .nil) (hsp H hO hS)) fun r s' h => ?_
  cases r with
  | error e => exact (hCX H e s' h).elim
  | ok fl =>
   cases fl with
   | next => exact False.elim h
   | brk => exact False.elim h
   | cont => exact False.elim h
   | ret u =>
    obtain ⟨v, H', os, bare, un, hok', r', q⟩ := h
    have q' : v = .bl true := q
    subst q'
    obtain rfl : u = Value.bool true := r'
    refine ⟨rfl, OldK.of_keep fun b o e => ?_, os, bare⟩
    cases q : H b with
    | none => exact un.keep b o e q (by intro z; exact absurd (show b ∈ ([] : List Addr) from z) (by simp)) (by simp)
    | some u =>
     rcases hO b with z | ⟨ob, xs, z⟩
     ·rw [q] at z; cases z
     ·have z2 := un.frzs b ob _ z
      obtain ⟨e1, _⟩ := hok b _ z
      obtain ⟨e2, _⟩ := hok' b _ z2
      rw [e] at e1; cases e1
      exact e2
 cases hk : K.lookup a with
 | some o =>
  -- the script is one of the module's own objects
  have e := KX a o hk
  rw [ha] at e
  cases e
  refine core (fun _ => none) (fun _ => .inl rfl) (.inr ⟨_, vs.toArray, _, hk, rfl, rfl, rfl, by rw [List.size_toArray, lenV]; exact hl, by simpa using rv⟩) (fun b u z => by have z' : (none : Option HO) = some u := z; cases z') (fun b z => absurd rfl z) fun z => absurd rfl z
 | none =>
  refine core (fun b => if b = a then some (.frz { cls := .type "list", data := .seq vs.toArray } (.lst (ns.map V.int))) else none) (fun b => ?_) (.inl (.inr ⟨{ cls := .type "list", data := .seq vs.toArray }, if_pos rfl⟩)) (fun b u z => ?_) (fun b z => ?_) fun _ => hk
  ·by_cases hb : b = a
   ·exact .inr ⟨_, _, if_pos hb⟩
   ·exact .inl (if_neg hb)
  ·by_cases hb : b = a
   ·have z' := (if_pos hb).symm.trans z
    cases z'
    subst hb
    exact ⟨ha, by rw [List.length_map]; exact hl, vs, _, rv, ha⟩
   ·have z' := (if_neg hb).symm.trans z
    cases z'
  ·by_cases hb : b = a
   ·exact hb
   ·exact absurd (if_neg hb) z
noncomputable abbrev KOf {K : PySem.W.Frag} {h : Heap} (_ : K.In h) : PySem.W.Frag := K
theorem Zxi {l : PySem.W.OpenLaw} {n k : Nat} {q : Program} {loose : List Str} {XP : (Str -> Option Value) -> Heap -> Prop} {YP : World -> Heap -> Prop} {d : DefRec} {K : Params -> PySem.W.Frag} {CX : World -> CXT} {sp : World -> Sp} {x : Str}
  (hn : l.most = some n) (hn2 : n ≤ sizeLine) (hdf : d.params.defaults = []) (hr : Room k callerA)
  (hY : ∀ (w : World) (h : Heap), YP w h -> (K w.params).In h)
  (F : ∀ (w : World) (mg : Str -> Option Value) (fa : Addr) (h : Heap), (K w.params).In h -> h.Ns mainGlobals mg -> mg d.name = some (.ref fa) →
   ∃ fd : FuncData, (∀ (s : Shared) (u : Value), BindsTo s fd ⟨[u], []⟩ [(x, u)]) ∧
    ∀ base : Heap, (K w.params).In base -> base.Ns mainGlobals mg -> FnOk l.prog w (K w.params) mg base (CX w) k fa fd [x] (sp w))
  (hsp : ∀ (w : World) (H : Hp) (a : Addr) (ns : List Int), ns.length ≤ n -> Zys H -> SqL (K w.params) H a (ns.map V.int) -> sp w [.ref a] H (fun v _ => v = .bl true) fun _ _ _ => False)
  (hCX : ∀ (w : World) (H : Hp) (s : Shared) (e : Value) (s' : Shared), CX w [] H s (fun _ _ _ => False) e s' -> False) :
  PySem.W.WalkO q loose XP YP l.row.toRowW d [] (fun f vs => PySem.call f vs) := by
 refine Att.attach_call hn hdf fun w s₀ s₁ mg mb fa o pm cd doc a vs ns G Y ho hd hcd hmg hobj hints hlen hg => ?_
 have KX := hY w _ Y
 obtain ⟨fd, hb, hF⟩ := F w mg fa _ KX G.T.g hmg
 exact Zt4 KX G.T.g G.T.b G.T.builtins G.T.nolimit hg hobj hints (Nat.le_trans hlen hn2) hr hF hb (fun H hO hS => hsp w H a ns hlen hO hS) fun H e s' => hCX w H s₁ e s'
theorem walk_ofK {l : PySem.W.OpenLaw} {n k : Nat} {q : Program} {loose : List Str} {XP : (Str -> Option Value) -> Heap -> Prop} {YP : World -> Heap -> Prop} {d : DefRec} {K : Params -> PySem.W.Frag} {CX : CXT} {sp : PySem.W.Frag -> Sp} {x : Str}
  (hn : l.most = some n) (hn2 : n ≤ sizeLine) (hdf : d.params.defaults = []) (hr : Room k callerA)
  (hY : ∀ (w : World) (h : Heap), YP w h -> (K w.params).In h)
  (F : ∀ (w : World) (mg : Str -> Option Value) (fa : Addr) (h : Heap), (K w.params).In h -> h.Ns mainGlobals mg -> mg d.name = some (.ref fa) →
   ∃ fd : FuncData, (∀ (s : Shared) (u : Value), BindsTo s fd ⟨[u], []⟩ [(x, u)]) ∧
    ∀ base : Heap, (K w.params).In base -> base.Ns mainGlobals mg -> FnOk l.prog w (K w.params) mg base CX k fa fd [x] (sp (K w.params)))
  (hsp : ∀ (K : PySem.W.Frag) (H : Hp) (a : Addr) (ns : List Int), ns.length ≤ n -> Zys H -> SqL K H a (ns.map V.int) -> sp K [.ref a] H (fun v _ => v = .bl true) fun _ _ _ => False)
  (hCX : ∀ (H : Hp) (s : Shared) (e : Value) (s' : Shared), CX [] H s (fun _ _ _ => False) e s' -> False) :
  PySem.W.WalkO q loose XP YP l.row.toRowW d [] (fun f vs => PySem.call f vs) :=
 Zxi (K := K) (CX := fun _ => CX) (sp := fun w => sp (K w.params)) hn hn2 hdf hr hY F (fun w H a ns h1 h2 h3 => hsp (K w.params) H a ns h1 h2 h3) fun _ H s e s' => hCX H s e s'
noncomputable def Zda (s : Stmt) : Arguments := match s with
 | .FunctionDef _ a _ _ _ _ _ _ _ _ => a
 | _ => { posonlyargs := [], args := [], vararg := none, kwonlyargs := [], kw_defaults := [], kwarg := none, defaults := [] }
noncomputable def Zbe (s : Stmt) : List Stmt := match s with
 | .FunctionDef _ _ b _ _ _ _ _ _ _ => b
 | _ => []
noncomputable def Zad (s : Stmt) : Scope := match s with
 | .FunctionDef _ _ _ _ _ _ sc _ _ _ => sc
 | _ => { kind := .function, names := [], isGenerator := false, isCoroutine := false }
noncomputable abbrev CX0 : CXT := fun _ _ _ _ _ _ => False
noncomputable abbrev E0 : XK := fun _ _ _ => False
theorem Ztl {X : Cx} : Zhd CX0 X E0 := fun _ _ _ _ _ _ _ h => h.elim
structure Fun (K : PySem.W.Frag) (x qual : Str) (st : Stmt) (f : Addr) (fd : FuncData) : Prop where
 ex : ∃ (oc : Value) (od : Option Addr) (kV doc pm : Value) (an : Option Addr) (cdv ct : Value) (osl : Array (Option Value)),
  fd = PySem.W.fnOf x qual (Zda st) (Zbe st) (Zad st) .none kV doc pm an cdv ct ∧ K.lookup f = some ⟨oc, od, .func fd, osl⟩ ∧ PySem.W.codeIn K cdv qual = true
 kp : PySem.W.keepIn K (.ref f) = true
section
variable {P : Program} {w : World} {K : PySem.W.Frag} {mg : Str -> Option Value} {base : Heap}
theorem Fun.ok {x qual : Str} {st : Stmt} {f : Addr} {fd : FuncData} {N ps : List Str} {k : Nat} {sp : Sp} (F : Fun K x qual st f fd) (S : FnScope N ps (Zad st)) (len : ∀ vs H Q E, sp vs H Q E -> vs.length = ps.length)
  (hbody : ∀ (cdv : Value) (A : Around) (outer : List Env) (s : Shared) (H : Hp) (vs : List V) (Q : VK) (E : XK), Room k (A.deeper (envOfC qual (Zad st) s.heap.objs.size f cdv)) -> sp vs H Q E →
   ∃ t, PSs (Ze2 CX0 P w K mg base N qual (Zad st) f cdv A outer s H E).nox (Zbe st) t ∧ t { nx := fun _ H' => Q .non H', rt := Q } (start N vs) H) : FnOk P w K mg base CX0 (k + 1) f fd ps sp := by
 obtain ⟨oc, od, kV, doc, pm, an, cdv, ct, osl, rfl, lk, hcd⟩ := F.ex
 refine Zzu lk hcd S len fun A outer s H vs Q E hr hsp => ?_
 obtain ⟨t, h, q⟩ := hbody cdv A outer s H vs Q E hr hsp
 exact ⟨t, h.nox, q⟩
theorem Fun.binds {x qual : Str} {st : Stmt} {f : Addr} {fd : FuncData} {ps : List Str} (F : Fun K x qual st f fd)
  (h : ∀ (kV doc pm : Value) (an : Option Addr) (cdv ct : Value) (us : List Value), us.length = ps.length -> bindArgs (PySem.W.fnOf x qual (Zda st) (Zbe st) (Zad st) .none kV doc pm an cdv ct) ⟨us, []⟩ = pure (ps.zip us)) : Zfe K fd ps [] := by
 obtain ⟨oc, od, kV, doc, pm, an, cdv, ct, osl, rfl, lk, hcd⟩ := F.ex
 exact .all (h kV doc pm an cdv ct)
theorem Zp2 {x qual : Str} {st : Stmt} {f : Addr} {oc : Value} {od an : Option Addr} {osl : Array (Option Value)} {kV doc pm cdv ct : Value} (l : K.lookup f = some ⟨oc, od, .func (PySem.W.fnOf x qual (Zda st) (Zbe st) (Zad st) .none kV doc pm an cdv ct), osl⟩)
  (c : PySem.W.codeIn K cdv qual = true) (k : PySem.W.keepIn K (.ref f) = true) : Fun K x qual st f (PySem.W.fnOf x qual (Zda st) (Zbe st) (Zad st) .none kV doc pm an cdv ct) := ⟨⟨oc, od, kV, doc, pm, an, cdv, ct, osl, rfl, l, c⟩, k⟩
end
section
variable {X : Cx}
theorem pv (i : Nat) {x : Str} {pos : Pos} (hN : X.N[i]? = some x := by rfl) (hv : Vis X.env.scope x := by first | exact Or.inl rfl | exact Or.inr (Or.inl rfl) | exact Or.inr (Or.inr rfl)) (hd : (x == ("__debug__" : Str)) = false := by decide)
  (hcd : (x == ("__classdict__" : Str)) = false := by decide) : PE X (.Name x pos) (tVar i) := Yal hN hv hd hcd
end
end L2
set_option maxHeartbeats 4000000
set_option autoImplicit false
namespace DL
open PySem PySem.Spec PyProof.Rows L2
noncomputable def Zps : Value -> Option Int
 | .int i _ => some i
 | .bool b => some (if b then 1 else 0)
 | _ => none
noncomputable def Zmd (k : Int) (v : Value) : Bool := Zps v == some k
theorem Zd6 {k : Int} {v : Value} (h : Zmd k v = true) : (∃ t, v = .int k t) ∨ ∃ b, v = .bool b ∧ k = (if b then 1 else 0) := by
 have h : Zps v = some k := eq_of_beq h
 cases v with
 | int i t => exact .inl ⟨t, by cases h; rfl⟩
 | bool b => exact .inr ⟨b, rfl, (Option.some.inj h).symm⟩
 | _ => cases h
section
variable {prog : Program} {w : World} {A : Around} {E : Value -> Shared -> Prop} {s : Shared}
theorem Zl8 {b : Bool} {Q : Int -> Shared -> Prop} (h : Q (hashInt (if b then 1 else 0)) { s with toks := s.toks + 1 }) : wpAny (model prog w) A (pyHash (.bool b)) Q E s := by
 have hr := rawHash_range (if b then 1 else 0)
 have tb : s.TypeIs (.bool b) "bool" := rfl
 unfold pyHash
 have hv : [Value.bool b].any Value.onHeap = false := rfl
 refine wpAny_bind ?_
 rw [cRoomFor, if_neg (by rw [hv]; exact Bool.false_ne_true)]; refine wpAny_pure ?_
 refine wpAny_bind (wpAny_specialOf tb F.slot_bool_hash.lookup ?_)
 show wpAny _ _ (if (some (Value.builtin "int.__hash__") == some Value.none) = true then _ else _) Q E s
 rw [if_neg (by rw [beq_builtin_none]; exact Bool.false_ne_true)]
 refine wpAny_bind (wpAny_specialOf tb F.slot_bool_hash.lookup ?_)
 show wpAny _ _ (callSpecialIfBoundUnlessNone? (.bool b) "__hash__" _ >>= _) Q E s
 refine wpAny_bind (wpAny_callSpecialIfBoundUnlessNone?_slot tb F.slot_bool_hash
  (wpAny_call_entry F.slot_bool_hash tb entry_int_hash
   (show wpAny _ _ (do ret (← mkInt (rawHash (if b then 1 else 0)))) _ _ s from wpAny_ret_mkInt ?_) (args_int_hash _)))
 show wpAny _ _ (if (decide (-(2 : Int) ^ 63 ≤ rawHash (if b then 1 else 0)) && decide (rawHash (if b then 1 else 0) < 2 ^ 63)) = true then _ else _) Q E _
 rw [if_pos (by rw [decide_eq_true hr.1, decide_eq_true hr.2]; rfl)]
 exact wpAny_pure h
end
noncomputable def Zbo (prog : Program) (w : World) : KeyKind prog w Int where
 is := Zmd
 hash := hashInt
 inj := fun v a b ha hb => by
  unfold Zmd at ha hb
  have := (eq_of_beq ha).symm.trans (eq_of_beq hb)
  exact Option.some.inj this
 byValue := fun k v h => by rcases Zd6 h with ⟨t, rfl⟩ | ⟨b, rfl, _⟩ <;> rfl
 pyHash := fun hv h => by
  rcases Zd6 hv with ⟨t, rfl⟩ | ⟨b, rfl, rfl⟩
  ·exact wpAny_pyHash_int h
  ·exact Zl8 h
 eqBool := fun {A E s a b u v Q} hu hv h => by
  rcases Zd6 hu with ⟨t, rfl⟩ | ⟨c, rfl, rfl⟩ <;> rcases Zd6 hv with ⟨t', rfl⟩ | ⟨c', rfl, rfl⟩
  ·exact wpAny_eqBool_int h
  ·exact PySem.SeqAt.EqAt.int_bool _ _ _ prog w E Q h
  ·exact PySem.SeqAt.EqAt.bool_int _ _ _ prog w E Q h
  ·refine PySem.SeqAt.EqAt.bool_bool _ _ prog w E Q ?_
   have e : (c == c') = decide ((if c then (1 : Int) else 0) = (if c' then 1 else 0)) := by cases c <;> cases c' <;> rfl
   rw [e]; exact h
 «strs» := fun k x t v h => by simp [Zmd, Zps] at h
inductive D where
 | non | bl (b : Bool) | int (i : Int) | str (x : Str) | ty (n : String) | tup (xs : List D) | fl (xs : List D) | ref (n : Nat)
inductive DO where
 | lst (xs : List D) | dic (kvs : List (D × D)) (fz : Bool) | dci (kvs : List (Int × D)) | dcn (kvs : List (D × D)) | obj (cn : Str) (fs : List (Str × D)) | exc (cn : Str)
noncomputable abbrev HD := List DO
noncomputable abbrev SD := List (Option D)
noncomputable def FzL (K : PySem.W.Frag) (H : Hp) (a : Addr) (xs : List V) : Prop :=
 (∃ o, H a = some (.frz o (.lst xs))) ∨
  ∃ (o : Obj) (its : Array Value) (n : Nat), K.lookup a = some o ∧ o.cls = .type "list" ∧ o.dict = none ∧ o.data = .seq its n ∧ its.size ≤ sizeLine ∧ Za8 xs its.toList
theorem FzL.sq {K : PySem.W.Frag} {H : Hp} {a : Addr} {xs : List V} (h : FzL K H a xs) : SqL K H a xs := by
 rcases h with h | h
 ·exact .inl (.inr h)
 ·exact .inr h
mutual
noncomputable def Rep (K : PySem.W.Frag) (H : Hp) (ι : List Addr) : D -> V -> Prop
 | .non, v => v = .non
 | .bl b, v => v = .bl b
 | .int i, v => v = .int i
 | .str x, v => v = .str x
 | .ty n, v => v = .ty n
 | .tup ds, v => ∃ a vs, v = .ref a ∧ SqT K H a vs ∧ Zlo K H ι ds vs
 | .fl ds, v => ∃ a vs, v = .ref a ∧ FzL K H a vs ∧ Zlo K H ι ds vs
 | .ref n, v => ∃ a, v = .ref a ∧ ι[n]? = some a
noncomputable def Zlo (K : PySem.W.Frag) (H : Hp) (ι : List Addr) : List D -> List V -> Prop
 | [], vs => vs = []
 | d :: ds, vs => ∃ v r, vs = v :: r ∧ Rep K H ι d v ∧ Zlo K H ι ds r
end
section
variable {α β : Type} {F G : α -> β -> Prop}
theorem Prd.len : ∀ {xs : List α} {us : List β}, Paired F xs us -> xs.length = us.length
 | _, _, .nil => rfl
 | _, _, .cons _ t => by simp [Prd.len t]
theorem Prd.get : ∀ {xs : List α} {us : List β} {i : Nat} {x : α}, Paired F xs us -> xs[i]? = some x -> ∃ u, us[i]? = some u ∧ F x u
 | _, _, _, _, .nil, e => by simp at e
 | _, _, 0, _, .cons r _, e => by simp at e; subst e; exact ⟨_, rfl, r⟩
 | _, _, i + 1, x, .cons _ t, e => by
  obtain ⟨u, h1, h2⟩ := Prd.get (i := i) (x := x) t (by simpa using e)
  exact ⟨u, by simpa using h1, h2⟩
theorem Prd.set {x : α} {u : β} (r : F x u) : ∀ {xs : List α} {us : List β} (i : Nat), Paired F xs us -> Paired F (xs.set i x) (us.set i u)
 | _, _, _, .nil => .nil
 | _, _, 0, .cons _ t => .cons r t
 | _, _, i + 1, .cons q t => .cons q (Prd.set r i t)
theorem Prd.append : ∀ {xs ys : List α} {us ws : List β}, Paired F xs us -> Paired F ys ws -> Paired F (xs ++ ys) (us ++ ws)
 | _, _, _, _, .nil, s => s
 | _, _, _, _, .cons r t, s => .cons r (Prd.append t s)
theorem Prd.take : ∀ {xs : List α} {us : List β} (n : Nat), Paired F xs us -> Paired F (xs.take n) (us.take n)
 | _, _, 0, _ => .nil
 | _, _, _ + 1, .nil => .nil
 | _, _, n + 1, .cons r t => .cons r (Prd.take n t)
theorem Prd.drop : ∀ {xs : List α} {us : List β} (n : Nat), Paired F xs us -> Paired F (xs.drop n) (us.drop n)
 | _, _, 0, r => r
 | _, _, _ + 1, .nil => .nil
 | _, _, n + 1, .cons _ t => Prd.drop n t
theorem Prd.eraseIdx : ∀ {xs : List α} {us : List β} (i : Nat), Paired F xs us -> Paired F (xs.eraseIdx i) (us.eraseIdx i)
 | _, _, _, .nil => .nil
 | _, _, 0, .cons _ t => t
 | _, _, i + 1, .cons r t => .cons r (Prd.eraseIdx i t)
theorem Prd.rep {xs : List α} {us : List β} (h : Paired F xs us) : ∀ k : Nat, Paired F (List.replicate k xs).flatten (List.replicate k us).flatten
 | 0 => .nil
 | k + 1 => by
  rw [List.replicate_succ, List.flatten_cons, List.replicate_succ, List.flatten_cons]
  exact Prd.append h (Prd.rep h k)
theorem Prd.imp : ∀ {xs : List α} {us : List β}, Paired F xs us -> (∀ a b, a ∈ xs -> F a b -> G a b) -> Paired G xs us
 | _, _, .nil, _ => .nil
 | _, _, .cons r t, f => .cons (f _ _ (by simp) r) (Prd.imp t fun a b h => f a b (by simp [h]))
theorem Prd.reverse : ∀ {xs : List α} {us : List β}, Paired F xs us -> Paired F xs.reverse us.reverse
 | _, _, .nil => .nil
 | _, _, .cons r t => by
  rw [List.reverse_cons, List.reverse_cons]
  exact Prd.append (Prd.reverse t) (.cons r .nil)
end
section
variable {K : PySem.W.Frag} {H H' : Hp} {ι ι' : List Addr}
theorem Zdo : ∀ {ds : List D} {vs : List V}, Zlo K H ι ds vs ↔ Paired (Rep K H ι) ds vs
 | [], vs => by
  constructor
  ·intro h; rw [Zlo] at h; subst h; exact .nil
  ·intro h; cases h; rw [Zlo]
 | d :: ds, vs => by
  constructor
  ·intro h; rw [Zlo] at h
   obtain ⟨v, r, rfl, h1, h2⟩ := h
   exact .cons h1 (Zdo.mp h2)
  ·intro h
   cases h with
   | cons h1 h2 => rw [Zlo]; exact ⟨_, _, rfl, h1, Zdo.mpr h2⟩
@[simp] theorem rep_non {v : V} : Rep K H ι .non v ↔ v = .non := by rw [Rep]
@[simp] theorem rep_bl {b : Bool} {v : V} : Rep K H ι (.bl b) v ↔ v = .bl b := by rw [Rep]
@[simp] theorem rep_int {i : Int} {v : V} : Rep K H ι (.int i) v ↔ v = .int i := by rw [Rep]
@[simp] theorem rep_str {x : Str} {v : V} : Rep K H ι (.str x) v ↔ v = .str x := by rw [Rep]
@[simp] theorem rep_ty {n : String} {v : V} : Rep K H ι (.ty n) v ↔ v = .ty n := by rw [Rep]
theorem Za4 {ds : List D} {v : V} : Rep K H ι (.tup ds) v ↔ ∃ a vs, v = .ref a ∧ SqT K H a vs ∧ Paired (Rep K H ι) ds vs := by
 rw [Rep]
 constructor
 ·rintro ⟨a, vs, h1, h2, h3⟩; exact ⟨a, vs, h1, h2, Zdo.mp h3⟩
 ·rintro ⟨a, vs, h1, h2, h3⟩; exact ⟨a, vs, h1, h2, Zdo.mpr h3⟩
theorem Zfw {ds : List D} {v : V} : Rep K H ι (.fl ds) v ↔ ∃ a vs, v = .ref a ∧ FzL K H a vs ∧ Paired (Rep K H ι) ds vs := by
 rw [Rep]
 constructor
 ·rintro ⟨a, vs, h1, h2, h3⟩; exact ⟨a, vs, h1, h2, Zdo.mp h3⟩
 ·rintro ⟨a, vs, h1, h2, h3⟩; exact ⟨a, vs, h1, h2, Zdo.mpr h3⟩
theorem Zak {n : Nat} {v : V} : Rep K H ι (.ref n) v ↔ ∃ a, v = .ref a ∧ ι[n]? = some a := by rw [Rep]
structure Lw (K : PySem.W.Frag) (H : Hp) (ι : List Addr) (H' : Hp) (ι' : List Addr) : Prop where
 tup : ∀ a xs, SqT K H a xs -> SqT K H' a xs
 fz : ∀ a xs, FzL K H a xs -> FzL K H' a xs
 pre : ∃ t, ι' = ι ++ t
 fr : ∀ a o u, H a = some (.frz o u) -> H' a = some (.frz o u)
structure Le (K : PySem.W.Frag) (H : Hp) (ι : List Addr) (H' : Hp) (ι' : List Addr) : Prop extends Lw K H ι H' ι' where
 frame : ∀ a o, H a = some o -> a ∉ ι -> H' a = some o ∧ a ∉ ι'
theorem Le.refl : Le K H ι H ι := ⟨⟨fun _ _ h => h, fun _ _ h => h, ⟨[], by simp⟩, fun _ _ _ h => h⟩, fun _ _ h n => ⟨h, n⟩⟩
theorem Le.trans {H1 H2 : Hp} {ι1 ι2 : List Addr} (a : Le K H ι H1 ι1) (b : Le K H1 ι1 H2 ι2) : Le K H ι H2 ι2 := by
 refine ⟨⟨fun x xs h => b.tup x xs (a.tup x xs h), fun x xs h => b.fz x xs (a.fz x xs h), ?_, fun x o u h => b.fr x o u (a.fr x o u h)⟩, fun x o h n => ?_⟩
 ·obtain ⟨t, e⟩ := a.pre
  obtain ⟨u, e'⟩ := b.pre
  exact ⟨t ++ u, by rw [e', e, List.append_assoc]⟩
 ·obtain ⟨h1, n1⟩ := a.frame x o h n
  exact b.frame x o h1 n1
theorem Lw.get (l : Lw K H ι H' ι') {n : Nat} {a : Addr} (h : ι[n]? = some a) : ι'[n]? = some a := by
 obtain ⟨t, e⟩ := l.pre
 rw [e, List.getElem?_append_left (by exact (List.getElem?_eq_some_iff.mp h).1), h]
mutual
theorem Rep.monoW (l : Lw K H ι H' ι') : ∀ {d : D} {v : V}, Rep K H ι d v -> Rep K H' ι' d v
 | .non, v, h => by rw [Rep] at h ⊢; exact h
 | .bl _, v, h => by rw [Rep] at h ⊢; exact h
 | .int _, v, h => by rw [Rep] at h ⊢; exact h
 | .str _, v, h => by rw [Rep] at h ⊢; exact h
 | .ty _, v, h => by rw [Rep] at h ⊢; exact h
 | .tup ds, v, h => by
  rw [Rep] at h ⊢
  obtain ⟨a, vs, h1, h2, h3⟩ := h
  exact ⟨a, vs, h1, l.tup a vs h2, Zlo.monoW l h3⟩
 | .fl ds, v, h => by
  rw [Rep] at h ⊢
  obtain ⟨a, vs, h1, h2, h3⟩ := h
  exact ⟨a, vs, h1, l.fz a vs h2, Zlo.monoW l h3⟩
 | .ref n, v, h => by
  rw [Rep] at h ⊢
  obtain ⟨a, h1, h2⟩ := h
  exact ⟨a, h1, l.get h2⟩
theorem Zlo.monoW (l : Lw K H ι H' ι') : ∀ {ds : List D} {vs : List V}, Zlo K H ι ds vs -> Zlo K H' ι' ds vs
 | [], vs, h => by rw [Zlo] at h ⊢; exact h
 | d :: ds, vs, h => by
  rw [Zlo] at h ⊢
  obtain ⟨v, r, h1, h2, h3⟩ := h
  exact ⟨v, r, h1, Rep.monoW l h2, Zlo.monoW l h3⟩
end
theorem Rep.mono (l : Le K H ι H' ι') {d : D} {v : V} (h : Rep K H ι d v) : Rep K H' ι' d v := Rep.monoW l.toLw h
theorem Prd.monoW (l : Lw K H ι H' ι') {ds : List D} {vs : List V} (h : Paired (Rep K H ι) ds vs) : Paired (Rep K H' ι') ds vs := Zdo.mp (Zlo.monoW l (Zdo.mpr h))
theorem Prd.mono (l : Le K H ι H' ι') {ds : List D} {vs : List V} (h : Paired (Rep K H ι) ds vs) : Paired (Rep K H' ι') ds vs := Prd.monoW l.toLw h
noncomputable def nkOf : D -> Option Int
 | .int i => some i
 | .bl b => some (if b then 1 else 0)
 | _ => none
noncomputable def Zj4 : List D -> Option (List Int)
 | [] => some []
 | d :: r => (nkOf d).bind fun k => (Zj4 r).map fun ks => k :: ks
noncomputable def nk : D -> Option (List Int)
 | .tup ds => Zj4 ds
 | _ => none
noncomputable def Zzo (ks : List Int) : Int := reduceHash (Builtin.Tuple.tupleHashOf (ks.map hashInt))
noncomputable def Zca (a : Addr) (xs : List (List Int × Addr × Value)) (h : Heap) : Prop :=
 ∃ o es ep, h.get? a = some o ∧ o.ExactDict ∧ o.data = .dict es ep ∧ es.toList = xs.map (fun x => (⟨Zzo x.1, .ref x.2.1, x.2.2⟩ : DictEntry)) ∧ (xs.map (·.1)).Nodup
theorem Zca.keep {a : Addr} {xs : List (List Int × Addr × Value)} {h1 h2 : Heap} (d : Zca a xs h1) (k : ∀ o, h1.get? a = some o -> h2.get? a = some o) : Zca a xs h2 := by
 obtain ⟨o, es, ep, e, r⟩ := d
 exact ⟨o, es, ep, k o e, r⟩
noncomputable def Zmr (K : PySem.W.Frag) (H : Hp) (ι : List Addr) (p : D × D) (x : List Int × Addr × Value) : Prop := nk p.1 = some x.1 ∧ Rep K H ι p.1 (.ref x.2.1) ∧ ∃ v, Zcn v x.2.2 ∧ Rep K H ι p.2 v
noncomputable def DciAt (a : Addr) (xs : List (Int × Value)) (h : Heap) : Prop := ∀ (p : Program) (w : World), h.DictOf (Zbo p w) a xs
noncomputable def IRep (K : PySem.W.Frag) (H : Hp) (ι : List Addr) (p : Int × D) (x : Int × Value) : Prop := p.1 = x.1 ∧ ∃ v, Zcn v x.2 ∧ Rep K H ι p.2 v
noncomputable def nk2 : D -> Option (Int × List Int)
 | .tup [a, b] => (nkOf a).bind fun i => (nk b).map fun ks => (i, ks)
 | _ => none
noncomputable def nHash (k : Int × List Int) : Int := reduceHash (Builtin.Tuple.tupleHashOf [hashInt k.1, Zzo k.2])
noncomputable def DcnAt (a : Addr) (xs : List ((Int × List Int) × Addr × Value)) (h : Heap) : Prop :=
 ∃ o es ep, h.get? a = some o ∧ o.ExactDict ∧ o.data = .dict es ep ∧ es.toList = xs.map (fun x => (⟨nHash x.1, .ref x.2.1, x.2.2⟩ : DictEntry)) ∧ (xs.map (·.1)).Nodup
noncomputable def NRep (K : PySem.W.Frag) (H : Hp) (ι : List Addr) (p : D × D) (x : (Int × List Int) × Addr × Value) : Prop := nk2 p.1 = some x.1 ∧ Rep K H ι p.1 (.ref x.2.1) ∧ ∃ v, Zcn v x.2.2 ∧ Rep K H ι p.2 v
noncomputable def Yas (K : PySem.W.Frag) (H : Hp) (ι : List Addr) (p : Str × D) (x : Str × V) : Prop := p.1 = x.1 ∧ Rep K H ι p.2 x.2
noncomputable def Zgk (a C : Addr) (h : Heap) : Prop := ∃ o, h.get? a = some o ∧ o.cls = .ref C
noncomputable def Zpa (K : PySem.W.Frag) (H : Hp) (ι : List Addr) (a : Addr) : DO -> Prop
 | .lst ds => ∃ vs, H a = some (.lst vs) ∧ Paired (Rep K H ι) ds vs
 | .dic kvs fz => (a == sysModules) = false ∧ kvs.length ≤ sizeLine ∧ ∃ xs, (if fz = true then ∃ o, H a = some (.frz o (.ext (Zca a xs))) else H a = some (.ext (Zca a xs))) ∧ Paired (Zmr K H ι) kvs xs
 | .dci kvs => (a == sysModules) = false ∧ kvs.length ≤ sizeLine ∧ ∃ xs, H a = some (.ext (DciAt a xs)) ∧ Paired (IRep K H ι) kvs xs
 | .dcn kvs => (a == sysModules) = false ∧ kvs.length ≤ sizeLine ∧ ∃ xs, H a = some (.ext (DcnAt a xs)) ∧ Paired (NRep K H ι) kvs xs
 | .obj cn fs => ∃ C dx xs, PySem.W.nsIn K mainGlobals cn = some (some (.ref C)) ∧ H a = some (.ins C dx xs) ∧ Paired (Yas K H ι) fs xs
 | .exc cn => ∃ C, PySem.W.nsIn K mainGlobals cn = some (some (.ref C)) ∧ H a = some (.ext (Zgk a C))
structure HRep (K : PySem.W.Frag) (H : Hp) (ι : List Addr) (Hd : HD) : Prop where
 len : ι.length = Hd.length
 nd : ι.Nodup
 obj : ∀ (n : Nat) (a : Addr) (o : DO), ι[n]? = some a -> Hd[n]? = some o -> Zpa K H ι a o
theorem Zpa.there {a : Addr} {o : DO} (h : Zpa K H ι a o) : H a ≠ none := by
 cases o with
 | lst ds => obtain ⟨vs, e, _⟩ := h; rw [e]; simp
 | dic kv fz =>
  obtain ⟨_, _, xs, e, _⟩ := h
  cases fz with
  | true => rw [if_pos rfl] at e; obtain ⟨ob, e⟩ := e; rw [e]; simp
  | false => rw [if_neg (by simp)] at e; rw [e]; simp
 | dci kv => obtain ⟨_, _, xs, e, _⟩ := h; rw [e]; simp
 | dcn kv => obtain ⟨_, _, xs, e, _⟩ := h; rw [e]; simp
 | obj cn fs => obtain ⟨C, dx, xs, _, e, _⟩ := h; rw [e]; simp
 | exc cn => obtain ⟨C, _, e⟩ := h; rw [e]; simp
theorem Zpa.step {a : Addr} {o : DO} (h : Zpa K H ι a o) (l : Lw K H ι H' ι') (e : H' a = H a) : Zpa K H' ι' a o := by
 cases o with
 | lst ds => obtain ⟨vs, q, r⟩ := h; exact ⟨vs, by rw [e, q], Prd.monoW l r⟩
 | dic kv fz => obtain ⟨h1, h2, xs, q, r⟩ := h; exact ⟨h1, h2, xs, by rw [e]; exact q, Prd.imp r fun p x _ z => ⟨z.1, Rep.monoW l z.2.1, let ⟨v, z1, z2⟩ := z.2.2; ⟨v, z1, Rep.monoW l z2⟩⟩⟩
 | dci kv => obtain ⟨h1, h2, xs, q, r⟩ := h; exact ⟨h1, h2, xs, by rw [e]; exact q, Prd.imp r fun p x _ z => ⟨z.1, let ⟨v, z1, z2⟩ := z.2; ⟨v, z1, Rep.monoW l z2⟩⟩⟩
 | dcn kv => obtain ⟨h1, h2, xs, q, r⟩ := h; exact ⟨h1, h2, xs, by rw [e]; exact q, Prd.imp r fun p x _ z => ⟨z.1, Rep.monoW l z.2.1, let ⟨v, z1, z2⟩ := z.2.2; ⟨v, z1, Rep.monoW l z2⟩⟩⟩
 | obj cn fs => obtain ⟨C, dx, xs, h1, q, r⟩ := h; exact ⟨C, dx, xs, h1, by rw [e]; exact q, Prd.imp r fun p x _ z => ⟨z.1, Rep.monoW l z.2⟩⟩
 | exc cn => obtain ⟨C, h1, q⟩ := h; exact ⟨C, h1, by rw [e]; exact q⟩
theorem HRep.at {Hd : HD} (h : HRep K H ι Hd) {n : Nat} {o : DO} (e : Hd[n]? = some o) : ∃ a, ι[n]? = some a ∧ Zpa K H ι a o := by
 have hl : n < ι.length := by rw [h.len]; exact (List.getElem?_eq_some_iff.mp e).1
 exact ⟨ι[n], by simp [hl], h.obj n _ o (by simp [hl]) e⟩
theorem HRep.has {Hd : HD} (h : HRep K H ι Hd) {a : Addr} (hm : a ∈ ι) : ∃ (n : Nat) (o : DO), ι[n]? = some a ∧ Hd[n]? = some o ∧ Zpa K H ι a o := by
 obtain ⟨n, hn⟩ := List.mem_iff_getElem?.mp hm
 have hl : n < Hd.length := by rw [← h.len]; exact (List.getElem?_eq_some_iff.mp hn).1
 exact ⟨n, Hd[n], hn, by simp [hl], h.obj n a Hd[n] hn (by simp [hl])⟩
theorem HRep.fresh {Hd : HD} (h : HRep K H ι Hd) {p : Addr} (hp : H p = none) : p ∉ ι := fun hm => by
 obtain ⟨_, _, _, _, o⟩ := h.has hm
 exact o.there hp
theorem HRep.keep {Hd : HD} (h : HRep K H ι Hd) (l : Lw K H ι H' ι) (e : ∀ a ∈ ι, H' a = H a) : HRep K H' ι Hd :=
 ⟨h.len, h.nd, fun n a o h1 h2 => (h.obj n a o h1 h2).step l (e a (List.mem_of_getElem? h1))⟩
theorem Lw.fresh {p : Addr} (hp : H p = none) (o : HO) : Lw K H ι (upd H p o) ι where
 tup := fun a xs h => by
  rcases h with (h | ⟨ob, h⟩) | h
  ·exact .inl (.inl (by rw [Zaj (Zal h hp)]; exact h))
  ·exact .inl (.inr ⟨ob, by rw [Zaj (Zal h hp)]; exact h⟩)
  ·exact .inr h
 fz := fun a xs h => by
  rcases h with ⟨ob, h⟩ | h
  ·exact .inl ⟨ob, by rw [Zaj (Zal h hp)]; exact h⟩
  ·exact .inr h
 pre := ⟨[], by simp⟩
 fr := fun a ob u h => by rw [Zaj (Zal h hp)]; exact h
theorem Le.fresh {p : Addr} (hp : H p = none) (o : HO) : Le K H ι (upd H p o) ι := ⟨Lw.fresh hp o, fun a ob h n => ⟨by rw [Zaj (Zal h hp)]; exact h, n⟩⟩
theorem Le.fresh1 {p : Addr} (hp : H p = none) (o : HO) : Le K H ι (upd H p o) (ι ++ [p]) where
 tup := (Le.fresh (ι := ι) hp o).tup
 fz := (Le.fresh (ι := ι) hp o).fz
 pre := ⟨[p], rfl⟩
 fr := (Le.fresh (K := K) (ι := ι) hp o).fr
 frame := fun a ob h n => ⟨by rw [Zaj (Zal h hp)]; exact h, by
  have := Zal h hp
  simp [n, this]⟩
theorem HRep.tup {Hd : HD} (h : HRep K H ι Hd) {p : Addr} (hp : H p = none) (o : HO) : HRep K (upd H p o) ι Hd :=
 h.keep (Lw.fresh hp o) fun a ha => Zaj fun z => by subst z; exact h.fresh hp ha
theorem HRep.new {Hd : HD} (h : HRep K H ι Hd) {p : Addr} (hp : H p = none) {u : HO} {o : DO} (ho : Zpa K (upd H p u) (ι ++ [p]) p o) : HRep K (upd H p u) (ι ++ [p]) (Hd ++ [o]) := by
 have hf := h.fresh hp
 refine ⟨by simp [h.len], by simp only [List.nodup_append, h.nd, true_and]; exact ⟨by simp, fun a ha b hb e => hf (by simp at hb; rw [← hb, ← e]; exact ha)⟩, fun n a ob h1 h2 => ?_⟩
 by_cases hn : n < ι.length
 ·rw [List.getElem?_append_left hn] at h1
  rw [List.getElem?_append_left (by rw [← h.len]; exact hn)] at h2
  have ha : a ∈ ι := List.mem_of_getElem? h1
  exact (h.obj n a ob h1 h2).step (Le.fresh1 hp u).toLw (Zaj fun z => by subst z; exact hf ha)
 ·rw [List.getElem?_append_right (by omega)] at h1
  rw [List.getElem?_append_right (by rw [← h.len]; omega)] at h2
  rw [← h.len] at h2
  have : n - ι.length = 0 := by
   have := (List.getElem?_eq_some_iff.mp h1).1
   simp at this; omega
  rw [this] at h1 h2
  simp at h1 h2
  subst h1; subst h2
  exact ho
noncomputable def Yap : HO -> Prop
 | .lst _ => True
 | .ext _ => True
 | .ins _ _ _ => True
 | _ => False
theorem Le.upd {a : Addr} (ha : a ∈ ι) {o : HO} (e : H a = some o) (lo : Yap o) (u : HO) : Le K H ι (upd H a u) ι where
 tup := fun b xs h => by
  rcases h with (h | ⟨ob, h⟩) | h
  ·refine .inl (.inl ?_)
   rw [Zaj (Zlj h e (by rintro rfl; exact lo))]; exact h
  ·refine .inl (.inr ⟨ob, ?_⟩)
   rw [Zaj (Zlj h e (by rintro rfl; exact lo))]; exact h
  ·exact .inr h
 fz := fun b xs h => by
  rcases h with ⟨ob, h⟩ | h
  ·refine .inl ⟨ob, ?_⟩
   rw [Zaj (Zlj h e (by rintro rfl; exact lo))]; exact h
  ·exact .inr h
 pre := ⟨[], by simp⟩
 fr := fun b ob w h => by rw [Zaj (Zlj h e (by rintro rfl; exact lo))]; exact h
 frame := fun b ob h n => ⟨by rw [Zaj (by rintro rfl; exact n ha)]; exact h, n⟩
theorem HRep.upd {Hd : HD} (h : HRep K H ι Hd) {n : Nat} {a : Addr} (hn : ι[n]? = some a) {o u : HO} (e : H a = some o) (lo : Yap o) {ob : DO} (ho : Zpa K (upd H a u) ι a ob) : HRep K (upd H a u) ι (Hd.set n ob) := by
 refine ⟨by simp [h.len], h.nd, fun m b oc h1 h2 => ?_⟩
 by_cases hm : n = m
 ·subst hm
  rw [hn] at h1; cases h1
  rw [List.getElem?_set] at h2
  rw [if_pos rfl] at h2
  split at h2
  ·cases h2; exact ho
  ·cases h2
 ·rw [List.getElem?_set_ne hm] at h2
  have hb : b ≠ a := fun z => by
   subst z
   have l1 := (List.getElem?_eq_some_iff.mp hn).1
   exact hm ((List.getElem?_inj l1 h.nd).mp (hn.trans h1.symm))
  exact (h.obj m b oc h1 h2).step (Le.upd (List.mem_of_getElem? hn) e lo u).toLw (Zaj hb)
theorem HRep.add {Hd : HD} (h : HRep K H ι Hd) {p : Addr} (hp : p ∉ ι) {o : DO} (ho : Zpa K H (ι ++ [p]) p o) : HRep K H (ι ++ [p]) (Hd ++ [o]) := by
 refine ⟨by simp [h.len], by simp only [List.nodup_append, h.nd, true_and]; exact ⟨by simp, fun a ha b hb e => hp (by simp at hb; rw [← hb, ← e]; exact ha)⟩, fun n a ob h1 h2 => ?_⟩
 by_cases hn : n < ι.length
 ·rw [List.getElem?_append_left hn] at h1
  rw [List.getElem?_append_left (by rw [← h.len]; exact hn)] at h2
  exact (h.obj n a ob h1 h2).step ⟨fun _ _ z => z, fun _ _ z => z, ⟨[p], rfl⟩, fun _ _ _ z => z⟩ rfl
 ·rw [List.getElem?_append_right (by omega)] at h1
  rw [List.getElem?_append_right (by rw [← h.len]; omega)] at h2
  rw [← h.len] at h2
  have : n - ι.length = 0 := by
   have := (List.getElem?_eq_some_iff.mp h1).1
   simp at this; omega
  rw [this] at h1 h2
  simp at h1 h2
  subst h1; subst h2
  exact ho
theorem Lw.side {p : Addr} {ys : List V} (hp : H p = some (.lst ys)) (u : HO) : Lw K H ι (L2.upd H p u) ι where
 tup := fun a xs h => by
  rcases h with (h | ⟨ob, h⟩) | h
  ·refine .inl (.inl ?_)
   rw [Zaj (Zlj h hp (by intro z; cases z))]; exact h
  ·refine .inl (.inr ⟨ob, ?_⟩)
   rw [Zaj (Zlj h hp (by intro z; cases z))]; exact h
  ·exact .inr h
 fz := fun a xs h => by
  rcases h with ⟨ob, h⟩ | h
  ·refine .inl ⟨ob, ?_⟩
   rw [Zaj (Zlj h hp (by intro z; cases z))]; exact h
  ·exact .inr h
 pre := ⟨[], by simp⟩
 fr := fun a ob w h => by rw [Zaj (Zlj h hp (by intro z; cases z))]; exact h
theorem Lw.trans {H1 H2 : Hp} {ι1 ι2 : List Addr} (a : Lw K H ι H1 ι1) (b : Lw K H1 ι1 H2 ι2) : Lw K H ι H2 ι2 := by
 refine ⟨fun x xs h => b.tup x xs (a.tup x xs h), fun x xs h => b.fz x xs (a.fz x xs h), ?_, fun x o u h => b.fr x o u (a.fr x o u h)⟩
 obtain ⟨t, e⟩ := a.pre
 obtain ⟨u, e'⟩ := b.pre
 exact ⟨t ++ u, by rw [e', e, List.append_assoc]⟩
theorem Le.side {H1 : Hp} {ι1 : List Addr} {p : Addr} {ys : List V} (l : Le K H ι H1 ι1) (h0 : H p = none) (h1 : H1 p = some (.lst ys)) (u : HO) : Le K H ι (L2.upd H1 p u) ι1 :=
 ⟨l.toLw.trans (Lw.side h1 u), fun a o h n => by
  obtain ⟨q, m⟩ := l.frame a o h n
  exact ⟨by rw [Zaj (Zal h h0)]; exact q, m⟩⟩
structure SRep (K : PySem.W.Frag) (H : Hp) (ι : List Addr) (σ : L2.St) (σd : SD) : Prop where
 len : σ.length = σd.length
 var : ∀ (i : Nat) (d : D), σd[i]? = some (some d) -> ∃ v, σ[i]? = some (some v) ∧ Rep K H ι d v
theorem SRep.mono {σ : L2.St} {σd : SD} (s : SRep K H ι σ σd) (l : Le K H ι H' ι') : SRep K H' ι' σ σd :=
 ⟨s.len, fun i d h => let ⟨v, h1, h2⟩ := s.var i d h; ⟨v, h1, h2.mono l⟩⟩
theorem SRep.set {σ : L2.St} {σd : SD} {d : D} {v : V} (s : SRep K H ι σ σd) (r : Rep K H ι d v) (i : Nat) : SRep K H ι (σ.set i (some v)) (σd.set i (some d)) := by
 refine ⟨by simp [s.len], fun j e h => ?_⟩
 by_cases hj : i = j
 ·subst hj
  rw [List.getElem?_set] at h ⊢
  rw [if_pos rfl] at h ⊢
  split at h
  ·rename_i hl
   rw [if_pos (by rw [s.len]; exact hl)]
   cases h
   exact ⟨v, rfl, r⟩
  ·cases h
 ·rw [List.getElem?_set_ne hj] at h ⊢
  exact s.var j e h
end
noncomputable def Znu : Expr -> Bool
 | .Starred _ _ => false
 | _ => true
theorem Zat {e : Expr} {es : List Expr} {env : Env} (h : Znu e = true) : starEach (e :: es) env = (false, eval e env) :: starEach es env := by
 cases e <;> first | rfl | cases h
theorem Zct {pos : Pos} {env : Env} : ∀ {es : List Expr}, es.all Znu = true -> (backTo pos (starEach es env)).any (·.1) = false
 | [], _ => rfl
 | e :: es, h => by
  rw [List.all_cons, Bool.and_eq_true] at h
  rw [Zat h.1]
  show (false || (backTo pos (starEach es env)).any (·.1)) = false
  rw [Zct h.2]
  rfl
theorem Zn0 {pos : Pos} {env : Env} {es : List Expr} (h : es.all Znu = true) (hl : es.length < 30) : ((backTo pos (starEach es env)).all (fun x => !x.1) && (backToKw pos (keywordEach [] env)).all (fun x => x.1.isSome)
   && decide (es.length + ([] : List Keyword).length + (if ([] : List Keyword).isEmpty then 0 else 1) < 30)) = true := by
 have h1 := Zct (pos := pos) (env := env) h
 have h2 : (backTo pos (starEach es env)).all (fun x => !x.1) = true := by
  rw [List.all_eq_true]
  intro x hx
  rw [List.any_eq_false] at h1
  have := h1 x hx
  simpa using this
 have h3 : decide (es.length + ([] : List Keyword).length + (if ([] : List Keyword).isEmpty then 0 else 1) < 30) = true := by
  rw [decide_eq_true_eq]
  simpa using hl
 rw [h2, h3]
 rfl
noncomputable abbrev EF := SD -> HD -> Option (D × HD)
noncomputable abbrev TF := SD -> HD -> Option (Bool × HD)
noncomputable abbrev AF := SD -> HD -> Option (List D × HD)
inductive FD where
 | nx | bk | ct | rt (d : D)
noncomputable abbrev SF := SD -> HD -> Option (FD × SD × HD)
noncomputable abbrev GF := D -> SD -> HD -> Option (SD × HD)
noncomputable abbrev FF := List D -> HD -> Option (D × HD)
noncomputable abbrev F2 := D -> D -> HD -> Option (D × HD)
noncomputable def QE (K : PySem.W.Frag) (H : Hp) (ι : List Addr) (d : D) (Hd' : HD) (Q : VK) : Prop := ∀ v H' ι', Le K H ι H' ι' -> HRep K H' ι' Hd' -> Rep K H' ι' d v -> Q v H'
noncomputable def rdE (K : PySem.W.Frag) (f : EF) : TE := fun σ H Q => ∃ ι σd Hd d Hd', SRep K H ι σ σd ∧ HRep K H ι Hd ∧ f σd Hd = some (d, Hd') ∧ QE K H ι d Hd' Q
noncomputable def rdT (K : PySem.W.Frag) (f : TF) : TT := fun σ H Q => ∃ ι σd Hd b Hd', SRep K H ι σ σd ∧ HRep K H ι Hd ∧ f σd Hd = some (b, Hd') ∧ ∀ H' ι', Le K H ι H' ι' -> HRep K H' ι' Hd' -> Q b H'
noncomputable def rdA (K : PySem.W.Frag) (f : AF) : TA := fun σ H Q => ∃ ι σd Hd ds Hd', SRep K H ι σ σd ∧ HRep K H ι Hd ∧ f σd Hd = some (ds, Hd') ∧ ∀ vs H' ι', Le K H ι H' ι' -> HRep K H' ι' Hd' -> Paired (Rep K H' ι') ds vs -> Q vs H'
noncomputable def QS (K : PySem.W.Frag) (H : Hp) (ι : List Addr) (fl : FD) (σd' : SD) (Hd' : HD) (E : Ends) : Prop := ∀ σ' H' ι', Le K H ι H' ι' -> HRep K H' ι' Hd' -> SRep K H' ι' σ' σd' →
 match fl with
 | .nx => E.nx σ' H'
 | .bk => E.bk σ' H'
 | .ct => E.ct σ' H'
 | .rt d => ∀ v, Rep K H' ι' d v -> E.rt v H'
noncomputable def rdS (K : PySem.W.Frag) (f : SF) : TS := fun E σ H => ∃ ι σd Hd fl σd' Hd', SRep K H ι σ σd ∧ HRep K H ι Hd ∧ f σd Hd = some (fl, σd', Hd') ∧ QS K H ι fl σd' Hd' E
noncomputable def rdG (K : PySem.W.Frag) (g : GF) : TG := fun v σ H Q => ∃ ι σd Hd d σd' Hd', SRep K H ι σ σd ∧ HRep K H ι Hd ∧ Rep K H ι d v ∧ g d σd Hd = some (σd', Hd') ∧
 ∀ σ' H' ι', Le K H ι H' ι' -> HRep K H' ι' Hd' -> SRep K H' ι' σ' σd' -> Q σ' H'
noncomputable def rd2 (K : PySem.W.Frag) (g : F2) : R2 := fun x y H Q => ∃ ι dx dy Hd d Hd', HRep K H ι Hd ∧ Rep K H ι dx x ∧ Rep K H ι dy y ∧ g dx dy Hd = some (d, Hd') ∧ QE K H ι d Hd' Q
noncomputable def rd1 (K : PySem.W.Frag) (g : D -> HD -> Option (D × HD)) : V -> Hp -> VK -> Prop := fun x H Q => ∃ ι dx Hd d Hd', HRep K H ι Hd ∧ Rep K H ι dx x ∧ g dx Hd = some (d, Hd') ∧ QE K H ι d Hd' Q
noncomputable def rdC (K : PySem.W.Frag) (g : FF) : List V -> Hp -> VK -> Prop := fun vs H Q => ∃ ι ds Hd d Hd', HRep K H ι Hd ∧ Paired (Rep K H ι) ds vs ∧ g ds Hd = some (d, Hd') ∧ QE K H ι d Hd' Q
noncomputable def rdM (K : PySem.W.Frag) (g : D -> List D -> HD -> Option (D × HD)) : V -> List V -> Hp -> VK -> Prop := fun v vs H Q => ∃ ι x ds Hd d Hd', HRep K H ι Hd ∧ Rep K H ι x v ∧ Paired (Rep K H ι) ds vs ∧ g x ds Hd = some (d, Hd') ∧ QE K H ι d Hd' Q
noncomputable def PEf (X : Cx) (e : Expr) (f : EF) : Prop := PE X e (rdE X.K f)
noncomputable def PTf (X : Cx) (e : Expr) (f : TF) : Prop := PT X e (rdT X.K f)
noncomputable def PWf (X : Cx) (e : Expr) (f : TF) : Prop := PW X e (rdT X.K f)
noncomputable def PAf (X : Cx) (es : List Expr) (f : AF) : Prop := PA X es (rdA X.K f)
noncomputable def PSf (X : Cx) (st : Stmt) (f : SF) : Prop := PS X st (rdS X.K f)
noncomputable def Zng (X : Cx) (st : List Stmt) (f : SF) : Prop := PSs X st (rdS X.K f)
noncomputable def PGf (X : Cx) (tg : Expr) (g : GF) : Prop := PG X tg (rdG X.K g)
noncomputable def OpF (X : Cx) (f : Value -> Value -> Sem Value) (g : F2) : Prop := OpR X f (rd2 X.K g)
noncomputable def UnF (X : Cx) (f : Value -> Sem Value) (g : D -> HD -> Option (D × HD)) : Prop := UnR X f (rd1 X.K g)
noncomputable def Zg2 (X : Cx) (f : Value) (g : FF) : Prop := Zgx X f (rdC X.K g)
noncomputable def IxF (X : Cx) (g : F2) : Prop := IxR X (rd2 X.K g)
noncomputable def MtF (X : Cx) (id : String) (g : D -> List D -> HD -> Option (D × HD)) : Prop := MtR X id (rdM X.K g)
section
variable {X : Cx} {e a b c : Expr} {es : List Expr} {pos : Pos} {st : Stmt} {sts : List Stmt}
theorem PEi {t t' : TE} (h : PE X e t) (i : ∀ σ H Q, t' σ H Q -> t σ H Q) : PE X e t' := fun pins s σ H Q I q => h pins s σ H Q I (i σ H Q q)
theorem PTi {t t' : TT} (h : PT X e t) (i : ∀ σ H Q, t' σ H Q -> t σ H Q) : PT X e t' := fun pins s σ H Q I q => h pins s σ H Q I (i σ H Q q)
theorem PWi {t t' : TT} (h : PW X e t) (i : ∀ σ H Q, t' σ H Q -> t σ H Q) : PW X e t' := fun wh pins s σ H Q I q => h wh pins s σ H Q I (i σ H Q q)
theorem PAi {t t' : TA} (h : PA X es t) (i : ∀ σ H Q, t' σ H Q -> t σ H Q) : PA X es t' := fun ps pins s σ H Q I q => h ps pins s σ H Q I (i σ H Q q)
theorem PSi {t t' : TS} (h : PS X st t) (i : ∀ E σ H, t' E σ H -> t E σ H) : PS X st t' := fun pins s σ H E I q => h pins s σ H E I (i E σ H q)
theorem Zyu {t t' : TS} (h : PSs X sts t) (i : ∀ E σ H, t' E σ H -> t E σ H) : PSs X sts t' := fun pins s σ H E I q => h pins s σ H E I (i E σ H q)
theorem PGi {t t' : TG} (h : PG X e t) (i : ∀ v σ H Q, t' v σ H Q -> t v σ H Q) : PG X e t' := fun pins s σ H v u Q I r q => h pins s σ H v u Q I r (i v σ H Q q)
theorem OpRi {f : Value -> Value -> Sem Value} {t t' : R2} (h : OpR X f t) (i : ∀ x y H Q, t' x y H Q -> t x y H Q) : OpR X f t' := fun pins s σ H x y v u Q I r1 r2 q => h pins s σ H x y v u Q I r1 r2 (i x y H Q q)
noncomputable def Zac (i : Nat) : EF := fun σ H => (σ[i]?).join.map fun d => (d, H)
noncomputable def eC (d : D) : EF := fun _ H => some (d, H)
theorem Zab {i : Nat} {x : Str} (h : PE X (.Name x pos) (tVar i)) : PEf X (.Name x pos) (Zac i) := by
 refine PEi h fun σ H Q zz => ?_
 obtain ⟨ι, σd, Hd, d, Hd', s, hr, e, q⟩ := zz
 unfold Zac at e
 cases hx : σd[i]? with
 | none => rw [hx] at e; cases e
 | some o =>
  cases o with
  | none => rw [hx] at e; cases e
  | some d0 =>
   rw [hx] at e
   have e' : (d0, Hd) = (d, Hd') := Option.some.inj e
   obtain ⟨rfl, rfl⟩ := Prod.mk.inj e'
   obtain ⟨v, h1, h2⟩ := s.var i d0 hx
   exact ⟨v, h1, q v H ι Le.refl hr h2⟩
theorem Zo5 {v : V} {d : D} (h : PE X e (tC v)) (r : ∀ H ι, Rep X.K H ι d v) : PEf X e (eC d) := by
 refine PEi h fun σ H Q zz => ?_
 obtain ⟨ι, σd, Hd, d', Hd', s, hr, e, q⟩ := zz
 cases e
 exact q v H ι Le.refl hr (r H ι)
theorem Zag {i j} : PEf X (.Constant (.int i) j pos) (eC (.int i)) := Zo5 Zuw fun _ _ => by simp
theorem Zm7 {b j} : PEf X (.Constant (.bool b) j pos) (eC (.bl b)) := Zo5 pe_bl fun _ _ => by simp
theorem Zhx {j} : PEf X (.Constant .none j pos) (eC .non) := Zo5 Zzd fun _ _ => by simp
theorem Zch {x j} : PEf X (.Constant (.str x) j pos) (eC (.str x)) := Zo5 Zu9 fun _ _ => by simp
theorem Zhh {x : Str} {n : String} (hg : Gl X x) (hm : X.mg x = none) (hv : bootBuiltins x = some (.type n)) (hn : x ≠ "__name__" := by decide) (hd : (x == ("__debug__" : Str)) = false := by decide) : PEf X (.Name x pos) (eC (.ty n)) :=
 Zo5 (Zsd (v := .ty n) hg hm hv rfl hn hd) fun _ _ => by simp
noncomputable def eOp (g : F2) (fa fb : EF) : EF := fun σ H => (fa σ H).bind fun p => (fb σ p.2).bind fun q => g p.1 q.1 q.2
theorem Zt9 {fa fb : EF} {g : F2} {σ : L2.St} {H : Hp} {Q : VK} {K : PySem.W.Frag} (h : rdE K (eOp g fa fb) σ H Q) : tOp (rd2 K g) (rdE K fa) (rdE K fb) σ H Q := by
 obtain ⟨ι, σd, Hd, d, Hd', s, hr, e, q⟩ := h
 obtain ⟨⟨x, H1⟩, e1, e⟩ := Zo e
 obtain ⟨⟨y, H2⟩, e2, e⟩ := Zo e
 exact ⟨ι, σd, Hd, x, H1, s, hr, e1, fun v1 H1' ι1 l1 h1 r1 => ⟨ι1, σd, H1, y, H2, s.mono l1, h1, e2, fun v2 H2' ι2 l2 h2 r2 =>
  ⟨ι2, x, y, H2, d, Hd', h2, r1.mono l2, r2, e, fun v H' ι' l h r => q v H' ι' ((l1.trans l2).trans l) h r⟩⟩⟩
theorem Zam {op : Operator} {g : F2} {fa fb : EF} (ho : OpF X (binaryOp op) g) (ha : PEf X a fa) (hb : PEf X b fb) : PEf X (.BinOp a op b pos) (eOp g fa fb) :=
 PEi (pe_op ho ha hb) fun _ _ _ h => Zt9 h
theorem Zde {op : CmpOp} {g : F2} {fa fb : EF} (ho : OpF X (compareOp op) g) (ha : PEf X a fa) (hb : PEf X b fb) (hm : behindInMarks op b = false) : PEf X (.Compare a [op] [b] pos) (eOp g fa fb) :=
 PEi (Zwj ho ha hb hm) fun _ _ _ h => Zt9 h
theorem Zbv {g : F2} {fa fb : EF} (ho : IxF X g) (ha : PEf X a fa) (hb : PEf X b fb) (hs : Zsj b) : PEf X (.Subscript a b pos) (eOp g fa fb) :=
 PEi (pe_ix ho ha hb hs) fun _ _ _ h => Zt9 h
noncomputable def eUn (g : D -> HD -> Option (D × HD)) (fa : EF) : EF := fun σ H => (fa σ H).bind fun p => g p.1 p.2
theorem Zm1 {op : UnaryOp} {g : D -> HD -> Option (D × HD)} {fa : EF} (ho : UnF X (unaryOp op) g) (ha : PEf X a fa) : PEf X (.UnaryOp op a pos) (eUn g fa) := by
 refine PEi (pe_un ho ha) fun σ H Q zz => ?_
 obtain ⟨ι, σd, Hd, d, Hd', s, hr, e, q⟩ := zz
 obtain ⟨⟨x, H1⟩, e1, e⟩ := Zo e
 exact ⟨ι, σd, Hd, x, H1, s, hr, e1, fun v1 H1' ι1 l1 h1 r1 => ⟨ι1, x, H1, d, Hd', h1, r1, e, fun v H' ι' l h r => q v H' ι' (l1.trans l) h r⟩⟩
noncomputable def blD : D -> Option Bool
 | .bl b => some b
 | _ => none
noncomputable def tOf (f : EF) : TF := fun σ H => (f σ H).bind fun p => (blD p.1).map fun b => (b, p.2)
theorem Zjo {K : PySem.W.Frag} {H : Hp} {ι : List Addr} {d : D} {b : Bool} {v : V} (e : blD d = some b) (r : Rep K H ι d v) : v = .bl b := by
 cases d <;> simp [blD] at e
 subst e
 simpa using r
theorem Zar {op : CmpOp} {g : F2} {fa fb : EF} (ho : OpF X (compareOp op) g) (ha : PEf X a fa) (hb : PEf X b fb) (hm : behindInMarks op b = false) : PTf X (.Compare a [op] [b] pos) (tOf (eOp g fa fb)) := by
 refine PTi (Zwr ho ha hb hm) fun σ H Q zz => ?_
 obtain ⟨ι, σd, Hd, bb, Hd', s, hr, e, q⟩ := zz
 obtain ⟨⟨x, H1⟩, e1, e⟩ := Zo e
 obtain ⟨b', eb, e⟩ := Zm e
 cases e
 exact Zt9 ⟨ι, σd, Hd, x, H1, s, hr, e1, fun v H' ι' l h r => ⟨bb, Zjo eb r, q H' ι' l h⟩⟩
noncomputable def Zq5 : D -> HD -> Option Bool
 | .non, _ => some false
 | .bl b, _ => some b
 | .int i, _ => some (i != 0)
 | .tup xs, _ => some (!xs.isEmpty)
 | .fl xs, _ => some (!xs.isEmpty)
 | .str x, _ => if x.length ≤ sizeLine then some ((x.length : Int) != 0) else none
 | .ref n, H => match H[n]? with
  | some (.lst xs) => some (!xs.isEmpty)
  | _ => none
 | _, _ => none
theorem Zic {α β : Type} {F : α -> β -> Prop} {xs : List α} {us : List β} (r : Paired F xs us) : (!us.isEmpty) = !xs.isEmpty := by cases r <;> rfl
theorem Zwp {K : PySem.W.Frag} {H : Hp} {ι : List Addr} {Hd : HD} {d : D} {k : Bool} {v : V} (hr : HRep K H ι Hd) (r : Rep K H ι d v) (e : Zq5 d Hd = some k) : TruV K v H k := by
 cases d with
 | non => simp at r; subst r; simp [Zq5] at e; subst e; exact rfl
 | bl b => simp at r; subst r; simp [Zq5] at e; subst e; exact rfl
 | int i => simp at r; subst r; simp [Zq5] at e; subst e; exact rfl
 | ty n => simp [Zq5] at e
 | str x =>
  simp at r; subst r
  simp only [Zq5] at e
  split at e
  ·rename_i hl
   cases e
   exact ⟨hl, rfl⟩
  ·cases e
 | tup xs =>
  obtain ⟨ad, vs, rfl, h, p⟩ := Za4.mp r
  cases (show some (!xs.isEmpty) = some k from e)
  exact .inr (.inl ⟨vs, h, by rw [Zic p]⟩)
 | fl xs =>
  obtain ⟨ad, vs, rfl, h, p⟩ := Zfw.mp r
  cases (show some (!xs.isEmpty) = some k from e)
  exact .inl ⟨vs, h.sq, by rw [Zic p]⟩
 | ref n =>
  obtain ⟨ad, rfl, h⟩ := Zak.mp r
  simp only [Zq5] at e
  split at e
  ·rename_i xs ho
   cases e
   obtain ⟨vs, h1, p⟩ := hr.obj n ad _ h ho
   exact .inl ⟨vs, SqL.of h1, by rw [Zic p]⟩
  ·cases e
noncomputable def Zeq (f : EF) : TF := fun σ H => (f σ H).bind fun p => (Zq5 p.1 p.2).map fun b => (b, p.2)
theorem Zfs {fa : EF} (ha : PEf X a fa) (he : ∀ whole, isTrue a X.env whole = (do let v ← whole; standAt a.pos; holding [v] (truthy v))) : PTf X a (Zeq fa) := by
 refine PTi (Zs8 ha he) fun σ H Q zz => ?_
 obtain ⟨ι, σd, Hd, bb, Hd', s, hr, e, q⟩ := zz
 obtain ⟨⟨x, H1⟩, e1, e⟩ := Zo e
 obtain ⟨b', eb, e⟩ := Zm e
 cases e
 exact ⟨ι, σd, Hd, x, H1, s, hr, e1, fun v H' ι' l h r => ⟨bb, Zwp h r eb, q H' ι' l h⟩⟩
noncomputable def tNo (t : TF) : TF := fun σ H => (t σ H).map fun p => (!p.1, p.2)
noncomputable def tAn (t u : TF) : TF := fun σ H => (t σ H).bind fun p => if p.1 = true then u σ p.2 else some (false, p.2)
noncomputable def Zqc (t u : TF) : TF := fun σ H => (t σ H).bind fun p => if p.1 = true then some (true, p.2) else u σ p.2
theorem Zwz {t : TF} (h : PTf X a t) : PTf X (.UnaryOp .Not a pos) (tNo t) := by
 refine PTi (Zz9 h) fun σ H Q zz => ?_
 obtain ⟨ι, σd, Hd, bb, Hd', s, hr, e, q⟩ := zz
 obtain ⟨⟨x, H1⟩, e1, e⟩ := Zm e
 cases e
 exact ⟨ι, σd, Hd, x, H1, s, hr, e1, fun H' ι' l h => q H' ι' l h⟩
theorem Zso {t : TF} (h : PTf X a t) : PWf X (.BoolOp .And [a] pos) t := Zww h
theorem Zjr {t : TF} (h : PTf X a t) : PWf X (.BoolOp .Or [a] pos) t := Zx9 h
theorem Zwg {t u : TF} (h : PTf X a t) (h2 : PWf X (.BoolOp .And (b :: es) pos) u) : PWf X (.BoolOp .And (a :: b :: es) pos) (tAn t u) := by
 refine PWi (Zz6 h h2) fun σ H Q zz => ?_
 obtain ⟨ι, σd, Hd, bb, Hd', s, hr, e, q⟩ := zz
 obtain ⟨⟨x, H1⟩, e1, e⟩ := Zo e
 refine ⟨ι, σd, Hd, x, H1, s, hr, e1, fun H' ι' l h => ?_⟩
 cases x with
 | true =>
  rw [if_pos rfl]
  exact ⟨ι', σd, H1, bb, Hd', s.mono l, h, by simpa using e, fun H2 ι2 l2 h2 => q H2 ι2 (l.trans l2) h2⟩
 | false =>
  rw [if_neg (by simp)]
  simp at e
  obtain ⟨rfl, rfl⟩ := e
  exact q H' ι' l h
theorem Yat {t u : TF} (h : PTf X a t) (h2 : PWf X (.BoolOp .Or (b :: es) pos) u) : PWf X (.BoolOp .Or (a :: b :: es) pos) (Zqc t u) := by
 refine PWi (pw_or h h2) fun σ H Q zz => ?_
 obtain ⟨ι, σd, Hd, bb, Hd', s, hr, e, q⟩ := zz
 obtain ⟨⟨x, H1⟩, e1, e⟩ := Zo e
 refine ⟨ι, σd, Hd, x, H1, s, hr, e1, fun H' ι' l h => ?_⟩
 cases x with
 | true =>
  rw [if_pos rfl]
  simp at e
  obtain ⟨rfl, rfl⟩ := e
  exact q H' ι' l h
 | false =>
  rw [if_neg (by simp)]
  exact ⟨ι', σd, H1, bb, Hd', s.mono l, h, by simpa using e, fun H2 ι2 l2 h2 => q H2 ι2 (l.trans l2) h2⟩
theorem PWf.pt {t : TF} (h : PWf X a t) : PTf X a t := h _
noncomputable def eNo (f : EF) : EF := fun σ H => (f σ H).bind fun p => (blD p.1).map fun b => (.bl (!b), p.2)
noncomputable def eAn (f g : EF) : EF := fun σ H => (f σ H).bind fun p => (blD p.1).bind fun b => if b = true then g σ p.2 else some (.bl false, p.2)
noncomputable def eIf (t : TF) (f g : EF) : EF := fun σ H => (t σ H).bind fun p => if p.1 = true then f σ p.2 else g σ p.2
theorem Zj9 {f : EF} (h : PEf X a f) : PEf X (.UnaryOp .Not a pos) (eNo f) := by
 refine PEi (Zy9 h) fun σ H Q zz => ?_
 obtain ⟨ι, σd, Hd, d, Hd', s, hr, e, q⟩ := zz
 obtain ⟨⟨x, H1⟩, e1, e⟩ := Zo e
 obtain ⟨b', eb, e⟩ := Zm e
 cases e
 exact ⟨ι, σd, Hd, x, H1, s, hr, e1, fun v H' ι' l h r => ⟨b', Zjo eb r, q _ H' ι' l h (by simp)⟩⟩
theorem Zjk {op} {f : EF} (h : PEf X a f) : PEf X (.BoolOp op [a] pos) f := Yah h
theorem Zwm {f g : EF} (h : PEf X a f) (h2 : PEf X (.BoolOp .And (b :: es) pos) g) : PEf X (.BoolOp .And (a :: b :: es) pos) (eAn f g) := by
 refine PEi (Zy2 h h2) fun σ H Q zz => ?_
 obtain ⟨ι, σd, Hd, d, Hd', s, hr, e, q⟩ := zz
 obtain ⟨⟨x, H1⟩, e1, e⟩ := Zo e
 obtain ⟨b', eb, e⟩ := Zo e
 refine ⟨ι, σd, Hd, x, H1, s, hr, e1, fun v H' ι' l h r => ⟨b', Zjo eb r, ?_⟩⟩
 cases b' with
 | true =>
  rw [if_pos rfl]
  exact ⟨ι', σd, H1, d, Hd', s.mono l, h, by simpa using e, fun v2 H2 ι2 l2 h2 r2 => q v2 H2 ι2 (l.trans l2) h2 r2⟩
 | false =>
  rw [if_neg (by simp)]
  simp at e
  obtain ⟨rfl, rfl⟩ := e
  exact q _ H' ι' l h (by simp)
theorem Znv {t : TF} {f g : EF} (hc : PTf X c t) (ha : PEf X a f) (hb : PEf X b g) : PEf X (.IfExp c a b pos) (eIf t f g) := by
 refine PEi (Ztj hc ha hb) fun σ H Q zz => ?_
 obtain ⟨ι, σd, Hd, d, Hd', s, hr, e, q⟩ := zz
 obtain ⟨⟨x, H1⟩, e1, e⟩ := Zo e
 refine ⟨ι, σd, Hd, x, H1, s, hr, e1, fun H' ι' l h => ?_⟩
 cases x with
 | true =>
  rw [if_pos rfl]
  exact ⟨ι', σd, H1, d, Hd', s.mono l, h, by simpa using e, fun v2 H2 ι2 l2 h2 r2 => q v2 H2 ι2 (l.trans l2) h2 r2⟩
 | false =>
  rw [if_neg (by simp)]
  exact ⟨ι', σd, H1, d, Hd', s.mono l, h, by simpa using e, fun v2 H2 ι2 l2 h2 r2 => q v2 H2 ι2 (l.trans l2) h2 r2⟩
noncomputable def Zae : AF := fun _ H => some ([], H)
noncomputable def Zaa (f : EF) (g : AF) : AF := fun σ H => (f σ H).bind fun p => (g σ p.2).map fun q => (p.1 :: q.1, q.2)
theorem Zfd : PAf X [] Zae := by
 refine PAi Zlz fun σ H Q zz => ?_
 obtain ⟨ι, σd, Hd, d, Hd', s, hr, e, q⟩ := zz
 cases e
 exact q [] H ι Le.refl hr .nil
theorem Zfu {f : EF} {g : AF} (ha : PEf X e f) (hr : PAf X es g) (hs : starEach (e :: es) X.env = (false, eval e X.env) :: starEach es X.env := by exact Zat rfl) : PAf X (e :: es) (Zaa f g) := by
 refine PAi (Zek ha hr hs) fun σ H Q zz => ?_
 obtain ⟨ι, σd, Hd, d, Hd', s, hr, e, q⟩ := zz
 obtain ⟨⟨x, H1⟩, e1, e⟩ := Zo e
 obtain ⟨⟨y, H2⟩, e2, e⟩ := Zm e
 cases e
 exact ⟨ι, σd, Hd, x, H1, s, hr, e1, fun v1 H1' ι1 l1 h1 r1 => ⟨ι1, σd, H1, y, H2, s.mono l1, h1, e2, fun vs H2' ι2 l2 h2 r2 => q _ H2' ι2 (l1.trans l2) h2 (.cons (r1.mono l2) r2)⟩⟩
noncomputable def mkT (xs : List D) (H : HD) : Option (D × HD) := if xs.length ≤ sizeLine then some (.tup xs, H) else none
noncomputable def mkL (xs : List D) (H : HD) : Option (D × HD) := if xs.length ≤ sizeLine then some (.ref H.length, H ++ [.lst xs]) else none
theorem Zg6 {xs : List D} {H : HD} {r : D × HD} (h : mkT xs H = some r) : xs.length ≤ sizeLine ∧ r = (.tup xs, H) := by
 unfold mkT at h
 split at h
 ·rename_i hl; cases h; exact ⟨hl, rfl⟩
 ·cases h
theorem Zm3 {xs : List D} {H : HD} {r : D × HD} (h : mkL xs H = some r) : xs.length ≤ sizeLine ∧ r = (.ref H.length, H ++ [.lst xs]) := by
 unfold mkL at h
 split at h
 ·rename_i hl; cases h; exact ⟨hl, rfl⟩
 ·cases h
theorem Zf6 {K : PySem.W.Frag} {H : Hp} {ι : List Addr} {Hd Hd' : HD} {xs : List D} {vs : List V} {d : D} {Q : VK} (hr : HRep K H ι Hd) (r : Paired (Rep K H ι) xs vs) (e : mkT xs Hd = some (d, Hd')) (q : QE K H ι d Hd' Q) :
  vs.length ≤ sizeLine ∧ ∀ p, H p = none -> Q (.ref p) (upd H p (.tup vs)) := by
 obtain ⟨hl, e⟩ := Zg6 e
 cases e
 refine ⟨by rw [← Prd.len r]; exact hl, fun p hp => ?_⟩
 exact q _ _ ι (Le.fresh hp _) (hr.tup hp _) (Za4.mpr ⟨p, vs, rfl, SqT.of Zaq, Prd.mono (Le.fresh hp _) r⟩)
theorem Zh9 {K : PySem.W.Frag} {H : Hp} {ι : List Addr} {Hd Hd' : HD} {xs : List D} {vs : List V} {d : D} {Q : VK} (hr : HRep K H ι Hd) (r : Paired (Rep K H ι) xs vs) (e : mkL xs Hd = some (d, Hd')) (q : QE K H ι d Hd' Q) :
  vs.length ≤ sizeLine ∧ ∀ p, H p = none -> Q (.ref p) (upd H p (.lst vs)) := by
 obtain ⟨hl, e⟩ := Zm3 e
 cases e
 refine ⟨by rw [← Prd.len r]; exact hl, fun p hp => ?_⟩
 refine q _ _ (ι ++ [p]) (Le.fresh1 hp _) (hr.new hp ⟨vs, Zaq, Prd.mono (Le.fresh1 hp _) r⟩) (Zak.mpr ⟨p, rfl, ?_⟩)
 rw [← hr.len]; simp
noncomputable def Zdg (f : AF) : EF := fun σ H => (f σ H).bind fun p => mkT p.1 p.2
noncomputable def Zdt (f : AF) : EF := fun σ H => (f σ H).bind fun p => mkL p.1 p.2
theorem Zqn {f : AF} {x1} (h : PAf X es f) : PEf X (.Tuple es x1 pos) (Zdg f) := by
 refine PEi (Zvj h) fun σ H Q zz => ?_
 obtain ⟨ι, σd, Hd, d, Hd', s, hr, e, q⟩ := zz
 obtain ⟨⟨x, H1⟩, e1, e⟩ := Zo e
 exact ⟨ι, σd, Hd, x, H1, s, hr, e1, fun vs H' ι' l h r => Zf6 h r e fun v2 H2 ι2 l2 h2 r2 => q v2 H2 ι2 (l.trans l2) h2 r2⟩
theorem Zq3 {f : AF} (h : PAf X es f) : PEf X (.List es pos) (Zdt f) := by
 refine PEi (Zzb h) fun σ H Q zz => ?_
 obtain ⟨ι, σd, Hd, d, Hd', s, hr, e, q⟩ := zz
 obtain ⟨⟨x, H1⟩, e1, e⟩ := Zo e
 exact ⟨ι, σd, Hd, x, H1, s, hr, e1, fun vs H' ι' l h r => Zh9 h r e fun v2 H2 ι2 l2 h2 r2 => q v2 H2 ι2 (l.trans l2) h2 r2⟩
noncomputable def eCB (g : FF) (f : AF) : EF := fun σ H => (f σ H).bind fun p => g p.1 p.2
theorem Zyt {f : AF} {g : FF} {σ : L2.St} {H : Hp} {Q : VK} {K : PySem.W.Frag} (h : rdE K (eCB g f) σ H Q) : tCB (rdC K g) (rdA K f) σ H Q := by
 obtain ⟨ι, σd, Hd, d, Hd', s, hr, e, q⟩ := h
 obtain ⟨⟨x, H1⟩, e1, e⟩ := Zo e
 exact ⟨ι, σd, Hd, x, H1, s, hr, e1, fun vs H' ι' l h r => ⟨ι', x, H1, d, Hd', h, r, e, fun v2 H2 ι2 l2 h2 r2 => q v2 H2 ι2 (l.trans l2) h2 r2⟩⟩
theorem Zdz {x : Str} {id : String} {g : FF} {f : AF} {p : Pos} (hc : Zg2 X (.builtin id) g) (hg : Gl X x) (hm : X.mg x = none) (hv : bootBuiltins x = some (.builtin id)) (ha : PAf X (e :: es) f) (hn : x ≠ "__name__" := by decide) (hdb : (x == ("__debug__" : Str)) = false := by decide)
  (he : starEach (e :: es) X.env = (false, eval e X.env) :: starEach es X.env := by exact Zat rfl) (hpl : (backTo pos (starEach es X.env)).any (·.1) = false := by exact Zct rfl) : PEf X (.Call (.Name x p) (e :: es) [] pos) (eCB g f) :=
 PEi (Zhc hc hg hm hv ha hn hdb he hpl) fun _ _ _ h => Zyt h
theorem Zdi {x : Str} {T : String} {g : FF} {f : AF} {p : Pos} (hc : Zg2 X (.type T) g) (hg : Gl X x) (hm : X.mg x = none) (hv : bootBuiltins x = some (.type T)) (ha : PAf X (e :: es) f) (hn : x ≠ "__name__" := by decide) (hdb : (x == ("__debug__" : Str)) = false := by decide)
  (he : starEach (e :: es) X.env = (false, eval e X.env) :: starEach es X.env := by exact Zat rfl) (hpl : (backTo pos (starEach es X.env)).any (·.1) = false := by exact Zct rfl) : PEf X (.Call (.Name x p) (e :: es) [] pos) (eCB g f) :=
 PEi (Zp9 hc hg hm hv ha hn hdb he hpl) fun _ _ _ h => Zyt h
noncomputable def spF (K : PySem.W.Frag) (n : Nat) (F : FF) : Sp := fun vs H Q _ => ∃ ι ds Hd d Hd', ds.length = n ∧ HRep K H ι Hd ∧ Paired (Rep K H ι) ds vs ∧ F ds Hd = some (d, Hd') ∧ QE K H ι d Hd' Q
noncomputable def Zai (n : Nat) (F : FF) (f : AF) : EF := fun σ H => (f σ H).bind fun p => if p.1.length = n then F p.1 p.2 else none
theorem Zs1 {k n : Nat} {f : Addr} {fd : FuncData} {ps : List Str} {x : Str} {p : Pos} {F : FF} {fa : AF} (G : FnOk X.prog X.w X.K X.mg X.base CX0 k f fd ps (spF X.K n F)) (hr : Room k X.A) (hg : Gl X x) (hm : X.mg x = some (.ref f)) (hk : PySem.W.keepIn X.K (.ref f) = true)
  (hb : Zfe X.K fd ps []) (ha : PAf X (e :: es) fa) (hdb : (x == ("__debug__" : Str)) = false := by decide) (he : starEach (e :: es) X.env = (false, eval e X.env) :: starEach es X.env := by exact Zat rfl) (hpl : (backTo pos (starEach es X.env)).any (·.1) = false := by exact Zct rfl) :
  PEf X (.Call (.Name x p) (e :: es) [] pos) (Zai n F fa) := by
 refine PEi (Zxx (E := E0) G hr hg hm hk hb .nil Ztl ha hdb he hpl) fun σ H Q zz => ?_
 obtain ⟨ι, σd, Hd, d, Hd', s, hr, e, q⟩ := zz
 obtain ⟨⟨x, H1⟩, e1, e⟩ := Zo e
 refine ⟨ι, σd, Hd, x, H1, s, hr, e1, fun vs H' ι' l h r => ?_⟩
 dsimp only at e
 split at e
 ·rename_i hl
  exact ⟨ι', x, H1, d, Hd', hl, h, by simpa using r, e, fun v2 H2 ι2 l2 h2 r2 => q v2 H2 ι2 (l.trans l2) h2 r2⟩
 ·cases e
noncomputable def Zkh : D -> HD -> Bool
 | .ref n, H => match H[n]? with
  | some (.lst _) => true
  | _ => false
 | _, _ => false
theorem Zni {K : PySem.W.Frag} {H : Hp} {ι : List Addr} {Hd : HD} {d : D} {v : V} (hr : HRep K H ι Hd) (r : Rep K H ι d v) (e : Zkh d Hd = true) : tyV K "list" v H := by
 cases d with
 | ref n =>
  obtain ⟨ad, rfl, h⟩ := Zak.mp r
  simp only [Zkh] at e
  split at e
  ·rename_i xs ho
   obtain ⟨vs, h1, p⟩ := hr.obj n ad _ h ho
   exact .inl ⟨rfl, vs, SqL.of h1⟩
  ·cases e
 | _ => simp [Zkh] at e
noncomputable def eLM (g : D -> List D -> HD -> Option (D × HD)) (fo : EF) (f : AF) : EF := fun σ H => (fo σ H).bind fun o => if Zkh o.1 o.2 = true then (f σ o.2).bind fun p => g o.1 p.1 p.2 else none
theorem Zfo {o : Expr} {name : Str} {apos cpos : Pos} {id : String} {g : D → List D → HD → Option (D × HD)} {fo : EF} {f : AF} (slot : Slot "list" name id) (hty : typeOf (.builtin id) = pure (.type "method_descriptor")) (hm : MtF X id g) (ho : PEf X o fo) (ha : PAf X (e :: es) f)
  (hbase : attributeBase o name X.env (eval o X.env) = eval o X.env := by rfl)
  (hfew : ((backTo cpos (starEach (e :: es) X.env)).all (fun x => !x.1) && (backToKw cpos (keywordEach [] X.env)).all (fun x => x.1.isSome)
   && decide ((e :: es).length + ([] : List Keyword).length + (if ([] : List Keyword).isEmpty then 0 else 1) < 30)) = true := by exact Zn0 rfl (by decide))
  (hline : (apos.endLine == cpos.line) = true := by rfl) (hs : starEach (e :: es) X.env = (false, eval e X.env) :: starEach es X.env := by exact Zat rfl) (hplain : (backTo cpos (starEach es X.env)).any (·.1) = false := by exact Zct rfl) :
  PEf X (.Call (.Attribute o name apos) (e :: es) [] cpos) (eLM g fo f) := by
 refine PEi (pe_bm PySem.F.plainAttrs_list slot hty hm ho ha hbase hfew hline hs hplain) fun σ H Q zz => ?_
 obtain ⟨ι, σd, Hd, d, Hd', s, hr, e, q⟩ := zz
 obtain ⟨⟨x, H1⟩, e1, e⟩ := Zo e
 dsimp only at e
 split at e
 ·rename_i hl
  obtain ⟨⟨y, H2⟩, e2, e⟩ := Zo e
  exact ⟨ι, σd, Hd, x, H1, s, hr, e1, fun v1 H1' ι1 l1 h1 r1 => ⟨Zni h1 r1 hl, ι1, σd, H1, y, H2, s.mono l1, h1, e2, fun vs H2' ι2 l2 h2 r2 =>
   ⟨ι2, x, y, H2, d, Hd', h2, r1.mono l2, r2, e, fun v H' ι' l h r => q v H' ι' ((l1.trans l2).trans l) h r⟩⟩⟩
 ·cases e
noncomputable def Zah : SF := fun σ H => some (.nx, σ, H)
noncomputable def Zaf (f g : SF) : SF := fun σ H => (f σ H).bind fun r => match r.1 with
 | .nx => g r.2.1 r.2.2
 | _ => some r
theorem Zj8 : Zng X [] Zah := by
 refine Zyu Zxc fun E σ H zz => ?_
 obtain ⟨ι, σd, Hd, fl, σd', Hd', s, hr, e, q⟩ := zz
 cases e
 exact q σ H ι Le.refl hr s
theorem Zhq {f g : SF} (h1 : PSf X st f) (h2 : Zng X sts g) : Zng X (st :: sts) (Zaf f g) := by
 refine Zyu (Zhb h1 h2) fun E σ H zz => ?_
 obtain ⟨ι, σd, Hd, fl, σd', Hd', s, hr, e, q⟩ := zz
 obtain ⟨⟨f1, σ1, H1⟩, e1, e⟩ := Zo e
 refine ⟨ι, σd, Hd, f1, σ1, H1, s, hr, e1, fun σ' H' ι' l h ss => ?_⟩
 cases f1 with
 | nx => exact ⟨ι', σ1, H1, fl, σd', Hd', ss, h, e, fun σ2 H2 ι2 l2 h2 s2 => q σ2 H2 ι2 (l.trans l2) h2 s2⟩
 | bk => cases e; exact q σ' H' ι' l h ss
 | ct => cases e; exact q σ' H' ι' l h ss
 | rt d => cases e; exact q σ' H' ι' l h ss
noncomputable def Zbh (f : EF) : SF := fun σ H => (f σ H).map fun p => (.rt p.1, σ, p.2)
theorem Zds {f : EF} (he : PEf X e f) : PSf X (.Return (some e) pos) (Zbh f) := by
 refine PSi (Zzm he) fun E σ H zz => ?_
 obtain ⟨ι, σd, Hd, fl, σd', Hd', s, hr, e, q⟩ := zz
 obtain ⟨⟨x, H1⟩, e1, e⟩ := Zm e
 cases e
 exact ⟨ι, σd, Hd, x, H1, s, hr, e1, fun v H' ι' l h r => q σ H' ι' l h (s.mono l) v r⟩
noncomputable def Zcy (f : EF) : SF := fun σ H => (f σ H).map fun p => (.nx, σ, p.2)
theorem Zto {f : EF} (he : PEf X e f) (hs : swapsWith e none pos.line X.env = pure false := by rfl) : PSf X (.Expr e pos) (Zcy f) := by
 refine PSi (Zwo he hs) fun E σ H zz => ?_
 obtain ⟨ι, σd, Hd, fl, σd', Hd', s, hr, e, q⟩ := zz
 obtain ⟨⟨x, H1⟩, e1, e⟩ := Zm e
 cases e
 exact ⟨ι, σd, Hd, x, H1, s, hr, e1, fun v H' ι' l h r => q σ H' ι' l h (s.mono l)⟩
noncomputable def sIf (t : TF) (f g : SF) : SF := fun σ H => (t σ H).bind fun p => if p.1 = true then f σ p.2 else g σ p.2
theorem Zuv {t : TF} {f g : SF} {as bs : List Stmt} (hc : PTf X c t) (ha : Zng X as f) (hb : Zng X bs g) : PSf X (.If c as bs pos) (sIf t f g) := by
 refine PSi (Zzn hc ha hb) fun E σ H zz => ?_
 obtain ⟨ι, σd, Hd, fl, σd', Hd', s, hr, e, q⟩ := zz
 obtain ⟨⟨x, H1⟩, e1, e⟩ := Zo e
 refine ⟨ι, σd, Hd, x, H1, s, hr, e1, fun H' ι' l h => ?_⟩
 cases x with
 | true =>
  rw [if_pos rfl]
  exact ⟨ι', σd, H1, fl, σd', Hd', s.mono l, h, by simpa using e, fun σ2 H2 ι2 l2 h2 s2 => q σ2 H2 ι2 (l.trans l2) h2 s2⟩
 | false =>
  rw [if_neg (by simp)]
  exact ⟨ι', σd, H1, fl, σd', Hd', s.mono l, h, by simpa using e, fun σ2 H2 ι2 l2 h2 s2 => q σ2 H2 ι2 (l.trans l2) h2 s2⟩
noncomputable def Zbu (i : Nat) (f : EF) : SF := fun σ H => (f σ H).map fun p => (.nx, σ.set i (some p.1), p.2)
theorem Zb8 {i : Nat} {x : Str} {f : EF} {pos' : Pos} (hN : X.N.Nodup) (hi : X.N[i]? = some x) (hx : Loc X.env.scope x) (he : PEf X e f) (hs : swapsWith e (some (.Name x pos')) pos.line X.env = pure false := by rfl) (hf : X.fn x = true ∨ X.env.scope.names.lookup x = some .local := by first | exact .inl rfl | exact .inr rfl | assumption) :
  PSf X (.Assign [.Name x pos'] e pos) (Zbu i f) := by
 refine PSi (Zzl hN hi hx he hs hf) fun E σ H zz => ?_
 obtain ⟨ι, σd, Hd, fl, σd', Hd', s, hr, e, q⟩ := zz
 obtain ⟨⟨x, H1⟩, e1, e⟩ := Zm e
 cases e
 exact ⟨ι, σd, Hd, x, H1, s, hr, e1, fun v H' ι' l h r => q _ H' ι' l h ((s.mono l).set r i)⟩
noncomputable def gNm (i : Nat) : GF := fun d σ H => some (σ.set i (some d), H)
theorem Zcs {i : Nat} {x : Str} (hN : X.N.Nodup) (hi : X.N[i]? = some x) (hx : Loc X.env.scope x) (hf : X.fn x = true ∨ X.env.scope.names.lookup x = some .local := by first | exact .inl rfl | exact .inr rfl | assumption) : PGf X (.Name x pos) (gNm i) := by
 refine PGi (Zq4 hN hi hx hf) fun v σ H Q zz => ?_
 obtain ⟨ι, σd, Hd, d, σd', Hd', s, hr, r, e, q⟩ := zz
 cases e
 exact q _ H ι Le.refl hr (s.set r i)
noncomputable abbrev Zvm := D -> D -> D -> HD -> Option HD
noncomputable def rdSet (K : PySem.W.Frag) (g : Zvm) : TSet := fun o i v H Q => ∃ ι od id vd Hd Hd', HRep K H ι Hd ∧ Rep K H ι od o ∧ Rep K H ι id i ∧ Rep K H ι vd v ∧ g od id vd Hd = some Hd' ∧ ∀ H' ι', Le K H ι H' ι' -> HRep K H' ι' Hd' -> Q H'
noncomputable def Zvp (X : Cx) (g : Zvm) : Prop := PSet X (rdSet X.K g)
noncomputable def gSb (fo fi : EF) (g : Zvm) : GF := fun d σ H => (fo σ H).bind fun o => (fi σ o.2).bind fun i => (g o.1 i.1 d i.2).map fun H' => (σ, H')
theorem Zp5 {o i : Expr} {fo fi : EF} {g : Zvm} (ho : PEf X o fo) (hi : PEf X i fi) (hs : Zvp X g)
  (ha : ∀ v, assign (.Subscript o i pos) X.env v = (do
   let ov ← holding [v] (eval o X.env)
   let iv ← holding [v, ov] (eval i X.env)
   standAt pos
   holding [v, ov, iv] (setItem ov iv v)
   release [v, ov, iv] []) := by intro _; rfl) : PGf X (.Subscript o i pos) (gSb fo fi g) := by
 refine PGi (Zzt ho hi hs ha) fun v σ H Q zz => ?_
 obtain ⟨ι, σd, Hd, d, σd', Hd', s, hr, r, e, q⟩ := zz
 obtain ⟨⟨x, H1⟩, e1, e⟩ := Zo e
 obtain ⟨⟨y, H2⟩, e2, e⟩ := Zo e
 obtain ⟨H3, e3, e⟩ := Zm e
 obtain ⟨rfl, rfl⟩ := Prod.mk.inj e
 exact ⟨ι, σd, Hd, x, H1, s, hr, e1, fun v1 H1' ι1 l1 h1 r1 => ⟨ι1, σd, H1, y, H2, s.mono l1, h1, e2, fun v2 H2' ι2 l2 h2 r2 =>
  ⟨ι2, x, y, d, H2, H3, h2, r1.mono l2, r2, r.mono (l1.trans l2), e3, fun H' ι' l h => q σ H' ι' ((l1.trans l2).trans l) h (s.mono ((l1.trans l2).trans l))⟩⟩⟩
noncomputable abbrev GFs := List D -> SD -> HD -> Option (SD × HD)
noncomputable def rdGs (K : PySem.W.Frag) (g : GFs) : TGs := fun vs σ H Q => ∃ ι σd Hd ds σd' Hd', SRep K H ι σ σd ∧ HRep K H ι Hd ∧ Paired (Rep K H ι) ds vs ∧ g ds σd Hd = some (σd', Hd') ∧
 ∀ σ' H' ι', Le K H ι H' ι' -> HRep K H' ι' Hd' -> SRep K H' ι' σ' σd' -> Q σ' H'
noncomputable def Zyq (X : Cx) (ts : List Expr) (g : GFs) : Prop := PGs X ts (rdGs X.K g)
noncomputable def gNl : GFs := fun ds σ H => match ds with
 | [] => some (σ, H)
 | _ => none
noncomputable def gCn (g : GF) (h : GFs) : GFs := fun ds σ H => match ds with
 | d :: r => (g d σ H).bind fun p => h r p.1 p.2
 | [] => none
theorem PGsi {ts : List Expr} {t t' : TGs} (h : PGs X ts t) (i : ∀ v σ H Q, t' v σ H Q -> t v σ H Q) : PGs X ts t' := fun pins s σ H v u Q I r q => h pins s σ H v u Q I r (i v σ H Q q)
theorem Zjm : Zyq X [] gNl := by
 refine PGsi Zvu fun vs σ H Q zz => ?_
 obtain ⟨ι, σd, Hd, ds, σd', Hd', s, hr, r, e, q⟩ := zz
 cases r with
 | nil => cases e; exact ⟨rfl, q σ H ι Le.refl hr s⟩
 | cons _ _ => cases e
theorem Zdy {g : GF} {h : GFs} (h1 : PGf X e g) (h2 : Zyq X es h) (hs : (assignEach (e :: es) X.env).map (·.2) = assign e X.env :: (assignEach es X.env).map (·.2) := by rfl) : Zyq X (e :: es) (gCn g h) := by
 refine PGsi (Zuc h1 h2 hs) fun vs σ H Q zz => ?_
 obtain ⟨ι, σd, Hd, ds, σd', Hd', s, hr, r, e, q⟩ := zz
 cases r with
 | nil => cases e
 | cons r rr =>
  obtain ⟨⟨σ1, H1⟩, e1, e⟩ := Zo e
  exact ⟨_, _, rfl, ι, σd, Hd, _, σ1, H1, s, hr, r, e1, fun σ' H' ι' l h ss => ⟨ι', σ1, H1, _, σd', Hd', ss, h, Prd.mono l rr, e, fun σ2 H2 ι2 l2 h2 s2 => q σ2 H2 ι2 (l.trans l2) h2 s2⟩⟩
noncomputable def gTp (n : Nat) (g : GFs) : GF := fun d σ H => match d with
 | .tup ds => if ds.length = n then g ds σ H else none
 | _ => none
theorem Zpd {k n : Nat} {g : GFs} (hc : X.calm = true) (h : Zyq X es g) (hn : (assignEach es X.env).length = n := by rfl) (hst : (assignEach es X.env).findIdx? (·.1) = none := by rfl) : PGf X (.Tuple es k pos) (gTp n g) := by
 refine PGi (Zz3 hc h hn hst) fun v σ H Q zz => ?_
 obtain ⟨ι, σd, Hd, d, σd', Hd', s, hr, r, e, q⟩ := zz
 cases d with
 | tup ds =>
  obtain ⟨a, vs, rfl, h1, p⟩ := Za4.mp r
  simp only [gTp] at e
  split at e
  ·rename_i hl
   exact ⟨a, vs, rfl, h1, by rw [← Prd.len p]; exact hl, ι, σd, Hd, ds, σd', Hd', s, hr, p, e, q⟩
  ·cases e
 | _ => simp [gTp] at e
noncomputable def Zx3 (f : EF) (g : GF) : SF := fun σ H => (f σ H).bind fun p => (g p.1 σ p.2).map fun q => (.nx, q.1, q.2)
theorem Zmk {tg : Expr} {f : EF} {g : GF} (he : PEf X e f) (hg : PGf X tg g) (hs : swapsWithSole [tg] e pos.line X.env = pure false := by rfl) (hw : swappedStores [tg] e X.env = pure none := by rfl)
  (h1 : (assignEach [tg] X.env).map (·.2) = [assign tg X.env] := by rfl) : PSf X (.Assign [tg] e pos) (Zx3 f g) := by
 refine PSi (Zzg he hg hs hw h1) fun E σ H zz => ?_
 obtain ⟨ι, σd, Hd, fl, σd', Hd', s, hr, e, q⟩ := zz
 obtain ⟨⟨x, H1⟩, e1, e⟩ := Zo e
 obtain ⟨⟨σ2, H2⟩, e2, e⟩ := Zm e
 cases e
 exact ⟨ι, σd, Hd, x, H1, s, hr, e1, fun v H' ι' l h r => ⟨ι', σd, H1, x, σ2, H2, s.mono l, h, r, e2, fun σ3 H3 ι3 l3 h3 s3 => q σ3 H3 ι3 (l.trans l3) h3 s3⟩⟩
noncomputable abbrev Zjt := List (Nat × DO)
noncomputable def Zeg (own : Zjt) (H : HD) : Prop := ∀ p ∈ own, H[p.1]? = some p.2
noncomputable abbrev ItF := SD -> HD -> Option ((List D × Zjt) × HD)
structure ItRep (K : PySem.W.Frag) (J : It) (xs : List D) (own : Zjt) (H0 : Hp) (ι0 : List Addr) : Prop where
 go : ∀ i H ι Hd, Le K H0 ι0 H ι -> HRep K H ι Hd -> Zeg own Hd -> i < xs.length -> J.go i H
 yld : ∀ i H ι Hd d x H', Le K H0 ι0 H ι -> HRep K H ι Hd -> Zeg own Hd -> xs[i]? = some d -> J.yld i H x H' -> ∃ ι', Le K H ι H' ι' ∧ HRep K H' ι' Hd ∧ Rep K H' ι' d x
 stop : ∀ i H ι Hd, Le K H0 ι0 H ι -> HRep K H ι Hd -> Zeg own Hd -> xs.length ≤ i -> J.stop i H
noncomputable def rdI (K : PySem.W.Frag) (f : ItF) : TI := fun σ H R => ∃ ι σd Hd xs own Hd', SRep K H ι σ σd ∧ HRep K H ι Hd ∧ f σd Hd = some ((xs, own), Hd') ∧ ∀ J H' ι', Le K H ι H' ι' -> HRep K H' ι' Hd' -> ItRep K J xs own H' ι' -> R J H'
noncomputable def PIf (X : Cx) (tg iter : Expr) (f : ItF) : Prop := PI X tg iter (rdI X.K f)
theorem PIi {tg iter : Expr} {t t' : TI} (h : PI X tg iter t) (i : ∀ σ H R, t' σ H R -> t σ H R) : PI X tg iter t' := fun pins s σ H R I q => h pins s σ H R I (i σ H R q)
open Classical in
noncomputable def Zgh (own : Zjt) (g : GF) (body : SF) : List D -> SF
 | [], σ, H => if Zeg own H then some (.nx, σ, H) else none
 | x :: r, σ, H => if Zeg own H then (g x σ H).bind fun p => (body p.1 p.2).bind fun q => match q.1 with
   | .nx => Zgh own g body r q.2.1 q.2.2
   | .ct => Zgh own g body r q.2.1 q.2.2
   | .bk => some (.nx, q.2.1, q.2.2)
   | .rt d => some (.rt d, q.2.1, q.2.2)
  else none
noncomputable def Zev (it : ItF) (g : GF) (body : SF) : SF := fun σ H => (it σ H).bind fun p => Zgh p.1.2 g body p.1.1 σ p.2
theorem Zwx {tg iter : Expr} {body : List Stmt} {f : ItF} {g : GF} {b : SF} (hp : PassesOwn (model X.prog X.w) X.A X.env X.xe) (hc : X.calm = true) (hi : PIf X tg iter f) (hg : PGf X tg g) (hb : Zng X body b)
  (hs : ∀ x, foldedSetIterable iter X.env x = pure x := by intro _; rfl) : PSf X (.For tg iter body [] pos) (Zev f g b) := by
 refine PSi (Yaj hp hc hi hg hb hs) fun E σ H zz => ?_
 obtain ⟨ι, σd, Hd, fl, σf, Hf, s, hr, e, q⟩ := zz
 obtain ⟨⟨⟨xs, own⟩, H1⟩, e1, e⟩ := Zo e
 refine ⟨ι, σd, Hd, xs, own, H1, s, hr, e1, fun J H0 ι0 l0 h0 it => ?_⟩
 refine ⟨fun i m σ H => m = xs.length - i ∧ i ≤ xs.length ∧ ∃ ι σd Hd, Le X.K H0 ι0 H ι ∧ SRep X.K H ι σ σd ∧ HRep X.K H ι Hd ∧ Zgh own g b (xs.drop i) σd Hd = some (fl, σf, Hf),
  ⟨xs.length, by simp, Nat.zero_le _, ι0, σd, H1, Le.refl, s.mono l0, h0, by simpa using e⟩, ?_⟩
 rintro i m σ2 H2 ⟨rfl, hi, ι2, σd2, Hd2, l2, s2, h2, e2⟩
 by_cases hlt : i < xs.length
 ·have ed : xs.drop i = xs[i] :: xs.drop (i + 1) := List.drop_eq_getElem_cons hlt
  rw [ed, Zgh] at e2
  split at e2
  ·rename_i ok
   obtain ⟨⟨σ3, H3⟩, e3, e2⟩ := Zo e2
   obtain ⟨⟨f4, σ4, H4⟩, e4, e2⟩ := Zo e2
   refine .inr ⟨it.go i H2 ι2 Hd2 l2 h2 ok hlt, fun σ' H' => (xs.length - (i + 1) = xs.length - (i + 1) ∧ i + 1 ≤ xs.length ∧ ∃ ι σd Hd, Le X.K H0 ι0 H' ι ∧ SRep X.K H' ι σ' σd ∧ HRep X.K H' ι Hd ∧ Zgh own g b (xs.drop (i + 1)) σd Hd = some (fl, σf, Hf)),
    fun σ' H' p => ⟨_, by omega, p⟩, fun x H' y => ?_⟩
   obtain ⟨ι3, l3, h3, r3⟩ := it.yld i H2 ι2 Hd2 xs[i] x H' l2 h2 ok (by simp [hlt]) y
   refine ⟨ι3, σd2, Hd2, xs[i], σ3, H3, s2.mono l3, h3, r3, e3, fun σ5 H5 ι5 l5 h5 s5 => ?_⟩
   refine ⟨ι5, σ3, H3, f4, σ4, H4, s5, h5, e4, fun σ6 H6 ι6 l6 h6 s6 => ?_⟩
   have L : Le X.K H0 ι0 H6 ι6 := ((l2.trans l3).trans l5).trans l6
   cases f4 with
   | nx => exact ⟨rfl, hlt, ι6, σ4, H4, L, s6, h6, e2⟩
   | ct => exact ⟨rfl, hlt, ι6, σ4, H4, L, s6, h6, e2⟩
   | bk => cases e2; exact q σ6 H6 ι6 (l0.trans L) h6 s6
   | rt d => cases e2; exact q σ6 H6 ι6 (l0.trans L) h6 s6
  ·cases e2
 ·have hi' : i = xs.length := by omega
  rw [List.drop_eq_nil_of_le (by omega), Zgh] at e2
  split at e2
  ·rename_i ok
   have e3 : (FD.nx, σd2, Hd2) = (fl, σf, Hf) := Option.some.inj e2
   obtain ⟨rfl, e4⟩ := Prod.mk.inj e3
   obtain ⟨rfl, rfl⟩ := Prod.mk.inj e4
   exact .inl ⟨it.stop i H2 ι2 _ l2 h2 ok (by omega), q σ2 H2 ι2 (l0.trans l2) h2 s2⟩
  ·cases e2
end
noncomputable def Zbp (n N : Nat) (b : SF) : FF := fun ds H => if ds.length = n then (b (ds.map some ++ List.replicate (N - ds.length) none) H).bind fun r => match r.1 with
  | .rt d => some (d, r.2.2)
  | .nx => some (.non, r.2.2)
  | _ => none
 else none
section
variable {P : Program} {w : World} {K : PySem.W.Frag} {mg : Str -> Option Value} {base : Heap}
theorem fn_f {x qual : Str} {st : Stmt} {f : Addr} {fd : FuncData} {N ps : List Str} {k : Nat} {b : SF} (F : Fun K x qual st f fd) (S : FnScope N ps (Zad st))
  (hb : ∀ (cdv : Value) (A : Around) (outer : List Env) (s : Shared) (H : Hp) (E : XK), Room k (A.deeper (envOfC qual (Zad st) s.heap.objs.size f cdv)) →
   Zng (Ze2 CX0 P w K mg base N qual (Zad st) f cdv A outer s H E).nox (Zbe st) b) : FnOk P w K mg base CX0 (k + 1) f fd ps (spF K ps.length (Zbp ps.length N.length b)) := by
 refine F.ok S (fun vs H Q E h => ?_) (fun cdv A outer s H vs Q E hr h => ?_)
 ·obtain ⟨ι, ds, Hd, d, Hd', hl, _, r, _⟩ := h
  rw [← Prd.len r]; exact hl
 ·obtain ⟨ι, ds, Hd, d, Hd', hl, hh, r, e, q⟩ := h
  refine ⟨_, hb cdv A outer s H E hr, ?_⟩
  unfold Zbp at e
  rw [if_pos hl] at e
  obtain ⟨⟨fl, σ1, H1⟩, e1, e⟩ := Zo e
  refine ⟨ι, _, Hd, fl, σ1, H1, ?_, hh, e1, fun σ' H' ι' l h ss => ?_⟩
  ·refine ⟨by simp [L2.start, Prd.len r], fun i d0 h0 => ?_⟩
   unfold L2.start
   by_cases hi : i < ds.length
   ·rw [List.getElem?_append_left (by simpa using hi), List.getElem?_map] at h0
    cases ed : ds[i]? with
    | none => rw [ed] at h0; cases h0
    | some d1 =>
     rw [ed] at h0
     cases h0
     obtain ⟨v, hv, rv⟩ := Prd.get r ed
     refine ⟨v, ?_, rv⟩
     rw [List.getElem?_append_left (by rw [List.length_map, ← Prd.len r]; exact hi), List.getElem?_map, hv]
     rfl
   ·rw [List.getElem?_append_right (by simpa using hi), List.getElem?_replicate] at h0
    split at h0 <;> cases h0
  ·cases fl with
   | rt d1 => cases e; exact fun v rv => q v H' ι' l h rv
   | nx => cases e; exact q .non H' ι' l h (by simp)
   | bk => cases e
   | ct => cases e
end
noncomputable def Zly (env : Env) : List (Str × NameKind) -> List (Str × Addr) -> List (Str × Addr)
 | [], cs => cs
 | (n, k) :: r, cs => Zly env r (if k = .free then (match env.cells.lookup n with | some a => (n, a) :: cs | none => cs) else cs)
theorem Zi7 (env : Env) (scope : Scope) (h : ∀ y ∈ scope.names, y.2 = .free -> (env.cells.lookup y.1).isSome = true) : closureFor scope env = pure (Zly env scope.names []) := by
 have key : ∀ (ns : List (Str × NameKind)) (cs : List (Str × Addr)), (∀ y ∈ ns, y.2 = .free -> (env.cells.lookup y.1).isSome = true) →
   (forIn ns cs fun (x : Str × NameKind) cs => match x with
    | (name, kind) => if (kind == .free) = true then (do let a ← cellOf env name; pure (ForInStep.yield ((name, a) :: cs))) else pure (ForInStep.yield cs) : Sem (List (Str × Addr))) = pure (Zly env ns cs) := by
  intro ns
  induction ns with
  | nil => intro cs _; rfl
  | cons x r ih =>
   intro cs hh
   obtain ⟨n, k⟩ := x
   have hr := ih
   rw [List.forIn_cons]
   by_cases hk : k = .free
   ·subst hk
    have q := hh (n, .free) (by simp) rfl
    cases e : env.cells.lookup n with
    | none => rw [e] at q; cases q
    | some a =>
     have e2 : cellOf env n = pure a := by unfold cellOf; rw [e]
     simp only [beq_self_eq_true, if_true, e2, pure_bind, Zly, e]
     exact ih _ fun y hy => hh y (List.mem_cons_of_mem _ hy)
   ·have hb : (k == NameKind.free) = false := by simpa using hk
    simp only [hb, Bool.false_eq_true, if_false, pure_bind, Zly, hk]
    exact ih _ fun y hy => hh y (List.mem_cons_of_mem _ hy)
 have e : closureFor scope env = ((forIn scope.names [] fun (x : Str × NameKind) cs => match x with
    | (name, kind) => if (kind == .free) = true then (do let a ← cellOf env name; pure (ForInStep.yield ((name, a) :: cs))) else pure (ForInStep.yield cs) : Sem (List (Str × Addr))) >>= pure) := rfl
 rw [e, bind_pure]
 exact key scope.names [] h
theorem Zjj (env : Env) : ∀ (ns : List (Str × NameKind)) (cs : List (Str × Addr)), (∀ x c, cs.lookup x = some c -> env.cells.lookup x = some c) -> ∀ x c, (Zly env ns cs).lookup x = some c -> env.cells.lookup x = some c
 | [], cs, h => h
 | (n, k) :: r, cs, h => by
  unfold Zly
  refine Zjj env r _ ?_
  split
  ·cases e : env.cells.lookup n with
   | none => exact h
   | some a =>
    intro x c q
    dsimp only at q
    rw [List.lookup_cons] at q
    split at q
    ·rename_i hb
     have hb' : x = n := by simpa using hb
     subst hb'; cases q; exact e
    ·exact h x c q
  ·exact h
theorem Znj (env : Env) : ∀ (ns : List (Str × NameKind)) (cs : List (Str × Addr)) (x : Str), ((cs.lookup x).isSome = true ∨ ((x, NameKind.free) ∈ ns ∧ (env.cells.lookup x).isSome = true)) -> ((Zly env ns cs).lookup x).isSome = true
 | [], cs, x, h => by
  rcases h with h | ⟨h, _⟩
  ·exact h
  ·simp at h
 | (n, k) :: r, cs, x, h => by
  unfold Zly
  refine Znj env r _ x ?_
  by_cases hk : k = .free
  ·rw [if_pos hk]
   cases e : env.cells.lookup n with
   | none =>
    rcases h with h | ⟨h, h2⟩
    ·exact .inl h
    ·rcases List.mem_cons.mp h with h | h
     ·cases h; rw [e] at h2; cases h2
     ·exact .inr ⟨h, h2⟩
   | some a =>
    dsimp only
    rw [List.lookup_cons]
    by_cases hx : x = n
    ·subst hx; simp
    ·have : (x == n) = false := by simpa using hx
     rw [this]
     rcases h with h | ⟨h, h2⟩
     ·exact .inl h
     ·rcases List.mem_cons.mp h with h | h
      ·cases h; exact absurd rfl hx
      ·exact .inr ⟨h, h2⟩
  ·rw [if_neg hk]
   rcases h with h | ⟨h, h2⟩
   ·exact .inl h
   ·rcases List.mem_cons.mp h with h | h
    ·cases h; exact absurd rfl hk
    ·exact .inr ⟨h, h2⟩
theorem Zhk {env : Env} : ∀ {names : List (Str × NameKind)} {x : Str}, names.lookup x = some .free →
  ((names.map fun (n, k) => if (k == NameKind.free && env.scope.kind == .function && env.kindOf n == some .cell) then (n, NameKind.cell) else (n, k)).lookup x = some .cell ∨
   (names.map fun (n, k) => if (k == NameKind.free && env.scope.kind == .function && env.kindOf n == some .cell) then (n, NameKind.cell) else (n, k)).lookup x = some .free)
 | [], _, h => by simp at h
 | (n, k) :: r, x, h => by
  have ih := @Zhk env r x
  show List.lookup x ((if (k == NameKind.free && env.scope.kind == .function && env.kindOf n == some .cell) = true then (n, NameKind.cell) else (n, k)) :: _) = _ ∨ List.lookup x ((if (k == NameKind.free && env.scope.kind == .function && env.kindOf n == some .cell) = true then (n, NameKind.cell) else (n, k)) :: _) = _
  cases hx : x == n with
  | true =>
   simp only [List.lookup_cons, hx] at h
   cases h
   by_cases hc : (NameKind.free == NameKind.free && env.scope.kind == .function && env.kindOf n == some .cell) = true
   ·rw [if_pos hc]; simp only [List.lookup_cons, hx]; simp
   ·rw [if_neg hc]; simp only [List.lookup_cons, hx]; simp
  | false =>
   simp only [List.lookup_cons, hx] at h
   by_cases hc : (k == NameKind.free && env.scope.kind == .function && env.kindOf n == some .cell) = true
   ·rw [if_pos hc]; simp only [List.lookup_cons, hx]; exact ih h
   ·rw [if_neg hc]; simp only [List.lookup_cons, hx]; exact ih h
theorem Zgq {env : Env} : ∀ {names : List (Str × NameKind)} {x : Str}, (∀ y ∈ names, y.2 ≠ .cell) →
  ((names.map fun (n, k) => if (k == NameKind.free && env.scope.kind == .function && env.kindOf n == some .cell) then (n, NameKind.cell) else (n, k)).lookup x = some .cell ∨
   (names.map fun (n, k) => if (k == NameKind.free && env.scope.kind == .function && env.kindOf n == some .cell) then (n, NameKind.cell) else (n, k)).lookup x = some .free) -> (x, NameKind.free) ∈ names
 | [], _, _, h => by simp at h
 | (n, k) :: r, x, hn, h => by
  have ih := @Zgq env r x (fun y hy => hn y (List.mem_cons_of_mem _ hy))
  have h : List.lookup x ((if (k == NameKind.free && env.scope.kind == .function && env.kindOf n == some .cell) = true then (n, NameKind.cell) else (n, k)) :: _) = _ ∨ List.lookup x ((if (k == NameKind.free && env.scope.kind == .function && env.kindOf n == some .cell) = true then (n, NameKind.cell) else (n, k)) :: _) = _ := h
  cases hx : x == n with
  | true =>
   have hx' : x = n := by simpa using hx
   subst hx'
   by_cases hc : (k == NameKind.free && env.scope.kind == .function && env.kindOf x == some .cell) = true
   ·have hk : k = .free := by
     rw [Bool.and_eq_true, Bool.and_eq_true] at hc
     simpa using hc.1.1
    subst hk; simp
   ·rw [if_neg hc] at h
    simp only [List.lookup_cons, hx] at h
    rcases h with h | h
    ·cases h; exact absurd rfl (hn (x, .cell) (by simp))
    ·cases h; simp
  | false =>
   refine List.mem_cons_of_mem _ (ih ?_)
   by_cases hc : (k == NameKind.free && env.scope.kind == .function && env.kindOf n == some .cell) = true
   ·rw [if_pos hc] at h; simp only [List.lookup_cons, hx] at h; exact h
   ·rw [if_neg hc] at h; simp only [List.lookup_cons, hx] at h; exact h
noncomputable def blk (X : Cx) (scope : Scope) (N : List Str) (cl : List (Str × Addr)) (C : Addr) (s : Shared) (H : Hp) (fp : List Addr) (pn : List (Addr × Obj)) : Cx where
 prog := X.prog
 w := X.w
 K := X.K
 mg := X.mg
 base := X.base
 A := X.A
 N := N
 s₀ := s
 H₀ := H
 env := compEnvC scope cl C X.env
 outer := X.stack
 stack := X.stack
 ex := fp
 fn := fun _ => false
 calm := X.calm
 pn := pn
 xe := fun _ _ => False
structure BlkOk (X : Cx) (scope : Scope) (x : Str) (cn : List Str) (ci : List Nat) : Prop where
 kind : scope.kind = .function
 nocell : ∀ y ∈ scope.names, y.2 ≠ .cell
 names : ∀ y ∈ scope.names, y.2 = .local -> scope.names.lookup y.1 = some .local
 tgt : scope.names.lookup x = some .local
 free : ∀ y ∈ scope.names, y.2 = .free -> (X.env.cells.lookup y.1).isSome = true
 nd : (x :: cn).Nodup
 len : ci.length = cn.length
 cap : ∀ (j : Nat) (y : Str), cn[j]? = some y -> ∃ i, ci[j]? = some i ∧ X.N[i]? = some y ∧ scope.names.lookup y = some .free ∧ (X.env.kindOf y = some .cell ∨ X.env.kindOf y = some .free)
noncomputable def Zo9 (ci : List Nat) (σ : L2.St) : L2.St := ci.map fun i => (σ[i]?).join
section
variable {X : Cx} {pins : List (Addr × Obj)} {σ : L2.St} {H : Hp} {s : Shared} {scope : Scope} {x : Str} {cn : List Str} {ci : List Nat} {fp : List Addr}
theorem Zvw {h₁ : Heap} {tk : Nat} {o₁ : Obj} (I : Inv X pins σ H s) (B : BlkOk X scope x cn ci) (hf : ∀ b ∈ fp, Zr2 X pins H b) (hlt : ∀ b ∈ fp, b < s.heap.objs.size)
  (hns : h₁.Ns s.heap.objs.size (fun _ => none)) (hsb : Heap.SameBut s.heap.objs.size (s.heap.push o₁) h₁) :
  Inv (blk X scope (x :: cn) (Zly X.env scope.names []) s.heap.objs.size s H fp (X.pn ++ pins)) [] (none :: Zo9 ci σ) H { s with heap := h₁, toks := tk } := by
 have old : ∀ b o, s.heap.get? b = some o -> h₁.get? b = some o := fun b o e => hsb.extBut b o (Nat.ne_of_lt (Heap.lt_size e)) (Heap.get?_push_of_some _ e)
 have sub := Zjj X.env scope.names [] (by intro x c h; simp at h)
 have has : ∀ y, (y, NameKind.free) ∈ scope.names -> ∃ c, (Zly X.env scope.names []).lookup y = some c := fun y hy =>
  Option.isSome_iff_exists.mp (Znj X.env scope.names [] y (.inr ⟨hy, B.free _ hy rfl⟩))
 refine ⟨⟨I.ok.mod, B.kind, I.ok.glob, I.ok.blt, Nat.le_refl _, fun y z c h1 h2 => I.ok.inj y z c (sub y c h1) (sub z c h2), fun y hy => has y (Zgq B.nocell hy), fun y c hy => absurd hy (by show ¬ (false = true); simp), I.ok.hd, I.ok.frames, .inl rfl,
   fun b hb => ⟨Nat.ne_of_lt (hlt b hb), fun y c e => (hf b hb).2.2.2.2.1 y c (sub y c e)⟩, I.bs, Nat.le_trans I.ok.bsz I.sz, fun b o e hb => ?_, fun b hb z => ?_, I.stack, I.stkFree⟩,
  rfl, I.bare, Un.kept old, ⟨_, hns, fun i y v h1 h2 h3 => ?_⟩, fun y c e => ?_, I.hok.fresh (Nat.le_refl _), fun y c e => I.freeC y c (sub y c e), fun p hp => ?_, I.hok.kept old, ?_⟩
 ·rcases (hf b hb).2.2.2.1 with z | z
  ·exact I.ok.noex b o e z
  ·exact absurd (Nat.lt_of_lt_of_le (Heap.lt_size e) (Nat.le_trans I.ok.bsz z)) (Nat.lt_irrefl _)
 ·exact (List.mem_cons.mp (I.stkSub b z)).elim (hf b hb).2.1 (hf b hb).2.2.1
 ·cases i with
  | zero => simp at h2
  | succ j =>
   have h1' : cn[j]? = some y := by simpa [blk] using h1
   have h2' : (Zo9 ci σ)[j]? = some (some v) := by simpa using h2
   obtain ⟨i, e1, e2, e3, e4⟩ := B.cap j y h1'
   have e5 : σ[i]? = some (some v) := by
    unfold Zo9 at h2'
    rw [List.getElem?_map, e1] at h2'
    simp at h2'
    cases e : σ[i]? with
    | none => rw [e] at h2'; cases h2'
    | some o => rw [e] at h2'; simp at h2'; rw [h2']
   obtain ⟨m, hn, hl⟩ := I.loc
   have hv : Vis X.env.scope y := by
    rcases e4 with e4 | e4
    ·exact .inr (.inl e4)
    ·exact .inr (.inr e4)
   obtain ⟨u, r, l⟩ := hl i y v e2 e5 hv
   refine ⟨u, r, .inr ⟨Zhk e3, ?_⟩⟩
   obtain ⟨c, ec⟩ := has y (PySem.mem_of_lookup e3)
   refine ⟨c, ec, ?_⟩
   rcases l with ⟨l, _⟩ | ⟨_, c', ec', hc⟩
   ·rcases e4 with e4 | e4 <;> rw [e4] at l <;> cases l
   ·rw [sub y c ec] at ec'
    cases ec'
    obtain ⟨ob, q1, q2⟩ := hc
    exact ⟨ob, old _ _ q1, q2⟩
 ·obtain ⟨v, ob, q1, q2⟩ := I.cell y c (sub y c e)
  exact ⟨v, ob, old _ _ q1, q2⟩
 ·have hp' : p ∈ X.pn ++ pins := by simpa [blk] using hp
  obtain ⟨q1, q2, q3, q4, q5⟩ := I.pin p hp'
  refine ⟨old _ _ q1, q2, Nat.ne_of_lt (Heap.lt_size q1), fun z => ?_, q5⟩
  exact (List.mem_cons.mp (I.stkSub p.1 z)).elim q3 q4
 ·simp [blk, Zo9, B.len]
noncomputable def PTs (X : Cx) (ifs : List Expr) (t : TT) : Prop :=
 ∀ (pins : List (Addr × Obj)) (s : Shared) (σ : L2.St) (H : Hp) (Q : Bool -> Hp -> Prop), Inv X pins σ H s -> t σ H Q →
  wpAny (model X.prog X.w) X.A (forIn ifs true fun c r => if r = true then do let ok ← isTrue c X.env (eval c X.env); pure (ForInStep.yield ok) else pure (ForInStep.yield r)) (TP X pins σ Q) X.xe s
theorem Zxf : PTs X [] (fun _ H Q => Q true H) := fun _ _ _ H _ I h => wpAny_tests_nil ⟨H, I, h⟩
theorem Zv8 {c : Expr} {t : TT} (h : PT X c t) : PTs X [c] t := fun pins s σ H Q I q => wpAny_tests_one (h pins s σ H Q I q)
noncomputable def LcW (J : It) (ci : List Nat) (tt : TT) (te : TE) (σ : L2.St) (Q : VK) (H1 : Hp) : Prop := ∀ p, H1 p = none -> ∃ W : Nat -> Nat -> List V -> Hp -> Prop, (∃ m, W 0 m [] (upd H1 p (.lst []))) ∧ ∀ i m ys H, W i m ys H →
 H p = some (.lst ys) ∧ ((J.stop i H ∧ Q (.ref p) H) ∨ (J.go i H ∧ ∀ v H', J.yld i H v H' -> tt (some v :: Zo9 ci σ) H' fun b H2 =>
  if b = true then te (some v :: Zo9 ci σ) H2 fun y H3 => H3 p = some (.lst ys) ∧ ys.length < sizeLine ∧ ∃ m', m' < m ∧ W (i + 1) m' (ys ++ [y]) (upd H3 p (.lst (ys ++ [y])))
  else ∃ m', m' < m ∧ W (i + 1) m' ys H2))
structure Gone (X : Cx) (pins : List (Addr × Obj)) (H : Hp) (s : Shared) (C : Addr) : Prop where
 ns : ∃ m, s.heap.Ns C m
 free : H C = none
 nl : C ≠ X.env.locals
 up : X.s₀.heap.objs.size ≤ C
 nc : ∀ x c, X.env.cells.lookup x = some c -> c ≠ C
 np : ∀ p ∈ X.pn ++ pins, p.1 ≠ C
theorem Gone.go {σ : L2.St} {h' : Heap} {C : Addr} (g : Gone X pins H s C) (I : Inv X pins σ H s) (hs : Heap.SameBut C s.heap h') : Inv X pins σ H { s with heap := h' } :=
 I.turned (t' := s.toks) (fun b o hb e => hs.extBut b o hb e) g.free g.nl (.inr g.up) g.nc g.np
theorem Znr {elt iter : Expr} {px pos : Pos} {ifs : List Expr} {tt : TT} {te : TE} {Q : VK} {E : Value -> Shared -> Prop} {RR : Value -> Addr -> Result -> Shared -> Prop} {it : Addr} {tn : Nat -> Heap -> Prop} {J : It}
  (I : Inv X pins σ H s) (hc : X.calm = true) (B : BlkOk X scope x cn ci) (T : Turn X.prog X.w X.K (.Name x px) J fp it tn) (st : tn 0 s.heap) (hf : ∀ b ∈ fp, Zr2 X pins H b)
  (ht : ∀ cl C s H fp pn, PTs (blk X scope (x :: cn) cl C s H fp pn) ifs tt) (he : ∀ cl C s H fp pn, PE (blk X scope (x :: cn) cl C s H fp pn) elt te)
  (hw : LcW J ci tt te σ Q H) (hRR : ∀ p C H' s', Inv X pins σ H' s' -> Gone X pins H' s' C -> Q (.ref p) H' -> RR (.ref p) C (.ok .next) s') :
  wpAny (model X.prog X.w) X.A (newList []) (fun acc s₃ => wpAny (model X.prog X.w) X.A (newFunctionEnv scope X.env.globals (Zly X.env scope.names []) [] X.env.qual none .none (some X.env)) (fun cenv s₄ =>
   codeAny (model X.prog X.w) X.A (.compStart (.ListComp elt [⟨.Name x px, iter, ifs, 0⟩] scope pos) 0 (.ref it) acc { cenv with scope := relabel scope X.env }) (RR acc cenv.locals) s₄) E s₃) E s := by
 have hp0 : H s.heap.objs.size = none := I.hok.fresh (Nat.le_refl _)
 obtain ⟨W, ⟨m0, w0⟩, turn⟩ := hw _ hp0
 refine wpAny_newObj_type (wpAny_newFunctionEnv B.nocell (by intro y hy; simp at hy) (fun h₁ hns₁ hsb₁ => ?_) B.kind)
 dsimp only at hns₁ hsb₁ ⊢
 have I3 : Inv X pins σ (upd H s.heap.objs.size (.lst [])) { s with heap := s.heap.push { cls := .type "list", dict := none, data := .seq ([] : List Value).toArray } } :=
  I.laid (t' := s.toks) (fun b u e => Heap.get?_push_of_some _ e) (Nat.le_refl _) ⟨Nat.zero_le _, [], 0, .nil, Heap.get?_push_size _ rfl⟩
 generalize hH3 : s.heap.push { cls := .type "list", dict := none, data := .seq ([] : List Value).toArray } = hp3 at hns₁ hsb₁ I3 ⊢
 have flt : ∀ b ∈ fp, b < s.heap.objs.size := fun b hb => by
  obtain ⟨o, e, _⟩ := T.obj 0 _ st b hb
  exact Heap.lt_size e
 have sz3 : hp3.objs.size = s.heap.objs.size + 1 := by rw [← hH3, Heap.size_push]
 have f3 : ∀ b ∈ fp, Zr2 X pins (upd H s.heap.objs.size (.lst [])) b := fun b hb => ⟨by rw [Zaj (Nat.ne_of_lt (flt b hb))]; exact (hf b hb).1, (hf b hb).2⟩
 have old3 : ∀ b o, s.heap.get? b = some o -> hp3.get? b = some o := fun b o e => by rw [← hH3]; exact Heap.get?_push_of_some _ e
 have I4 := Zvw (s := { s with heap := hp3 }) (tk := s.toks + ([] : List (Str × Value)).length) I3 B f3 (fun b hb => by show b < hp3.objs.size; rw [sz3]; exact Nat.lt_succ_of_lt (flt b hb)) (by simpa using hns₁) hsb₁
 have old4 : ∀ b o, hp3.get? b = some o -> h₁.get? b = some o := fun b o e => hsb₁.extBut b o (Nat.ne_of_lt (Heap.lt_size e)) (Heap.get?_push_of_some _ e)
 generalize hX' : blk X scope (x :: cn) (Zly X.env scope.names []) hp3.objs.size { s with heap := hp3 } (upd H s.heap.objs.size (.lst [])) fp (X.pn ++ pins) = X' at I4
 have ePr : X'.prog = X.prog := by rw [← hX']; rfl
 have eW : X'.w = X.w := by rw [← hX']; rfl
 have eK : X'.K = X.K := by rw [← hX']; rfl
 have eA : X'.A = X.A := by rw [← hX']; rfl
 have eEnv : X'.env = compEnvC scope (Zly X.env scope.names []) hp3.objs.size X.env := by rw [← hX']; rfl
 have eEx : X'.ex = fp := by rw [← hX']; rfl
 have ht' : PTs X' ifs tt := by rw [← hX']; exact ht _ _ _ _ _ _
 have he' : PE X' elt te := by rw [← hX']; exact he _ _ _ _ _ _
 have eXe : X'.xe = fun _ _ => False := by rw [← hX']; rfl
 have hg' : PG X' (.Name x px) (Zqx 0) := by
  rw [← hX']
  exact Zq4 (X := blk X scope (x :: cn) _ _ _ _ _ _) B.nd rfl (.inl (lookup_relabel_local B.tgt)) (.inr (lookup_relabel_local B.tgt))
 -- the iterator's objects, seen from the block
 have stat : ∀ {H' : Hp}, (∀ b ∈ fp, H' b = none) -> ∀ b ∈ fp, Zr2 X' [] H' b := fun {H'} hn b hb => by
  rw [← hX']
  refine ⟨hn b hb, (by show b ≠ hp3.objs.size; rw [sz3]; exact Nat.ne_of_lt (Nat.lt_succ_of_lt (flt b hb))), fun z => (List.mem_cons.mp (I3.stkSub b z)).elim (hf b hb).2.1 (hf b hb).2.2.1, .inl hb, fun y c e => ?_, fun p hp => ?_⟩
  ·exact (hf b hb).2.2.2.2.1 y c (Zjj X.env scope.names [] (by intro x c h; simp at h) y c e)
  ·exact (hf b hb).2.2.2.2.2 p (by simpa [blk] using hp)
 have back : ∀ {σ' : L2.St} {H' : Hp} {s' : Shared}, Inv X' [] σ' H' s' -> Inv X pins σ H' s' ∧ Gone X pins H' s' hp3.objs.size := fun {σ' H' s'} I5 => by
  have u : Un (frs X.stack) fp (upd H s.heap.objs.size (.lst [])) H' hp3 s'.heap := by
   have := I5.base
   rw [← hX'] at this
   exact this
  have hok : HOk X.prog X.w H' s'.heap := by have := I5.hok; rw [ePr, eW] at this; exact this
  have ho : s'.os = s.os := by have := I5.os; rw [← hX'] at this; exact this
  refine ⟨I3.call' ho u hok I5.bare fun b hb => ⟨(hf b hb).2.2.2.1, (hf b hb).2.1, (hf b hb).2.2.2.2.1, (hf b hb).2.2.2.2.2⟩, ?_, ?_, ?_, ?_, fun y c e z => ?_, fun p hp z => ?_⟩
  ·obtain ⟨m, hn, _⟩ := I5.loc
   rw [eEnv] at hn
   exact ⟨m, hn⟩
  ·have := I5.free
   rw [eEnv] at this
   exact this
  ·exact Nat.ne_of_gt (I3.lt)
  ·exact I3.sz
  ·obtain ⟨v, q⟩ := I3.cell y c e
   exact absurd (Nat.lt_of_lt_of_le q.lt (by rw [z]; exact Nat.le_refl _)) (Nat.lt_irrefl _)
  ·have := Heap.lt_size (I3.pin p hp).1
   rw [z] at this
   exact Nat.lt_irrefl _ this
 have loop : codeAny (model X.prog X.w) X.A (.compLoop (.ListComp elt [⟨.Name x px, iter, ifs, 0⟩] scope pos) 0 (.ref it) (.ref s.heap.objs.size) (compEnvC scope (Zly X.env scope.names []) hp3.objs.size X.env))
   (RR (.ref s.heap.objs.size) hp3.objs.size) { s with heap := h₁, toks := s.toks + ([] : List (Str × Value)).length } := by
  refine codeAny_loop rfl (fun n s' => ∃ i o ys H', Inv X' [] (o :: Zo9 ci σ) H' s' ∧ tn i s'.heap ∧ (∀ b ∈ fp, H' b = none) ∧ W i n ys H') (fun n s' hI => ?_) m0
   ⟨0, none, [], _, I4, T.keep _ _ _ st (fun b hb o e => old4 b o (old3 b o e)), fun b hb => (f3 b hb).1, w0⟩
  obtain ⟨i, o, ys, H', I5, st5, fr5, w5⟩ := hI
  show wpAny _ X.A ((compTurn (.ListComp elt [⟨.Name x px, iter, ifs, 0⟩] scope pos) 0 (.ref it) (.ref s.heap.objs.size) (compEnvC scope (Zly X.env scope.names []) hp3.objs.size X.env)).onRaise (fun x => do noteFrame x (compEnvC scope (Zly X.env scope.names []) hp3.objs.size X.env); theTreesLotGoes x)) _ _ s'
  refine wpAny_noted ?_
  rw [compTurn_list, ← eEnv, ← ePr, ← eW, ← eA]
  refine wpAny_mono (E := fun _ _ => False) ?_ (fun _ _ q => q) (fun _ _ z => z.elim)
  obtain ⟨hpl, wt⟩ := turn i n ys H' w5
  refine wpAny_bind (wpAny_standAt (wpAny_bind ?_))
  rcases wt with ⟨stop, q⟩ | ⟨go, step⟩
  ·have z := T.done X' ePr eW eK (by rw [← hX']; exact hc) i [] s' _ H' (fun _ _ => False) I5 (stat fr5) st5 stop
   rw [← ePr, ← eW] at z
   refine thn z fun r s6 zz => ?_
   obtain ⟨hr, I6⟩ := zz
   subst hr
   obtain ⟨J1, g1⟩ := back I6
   exact wpAny_pure (hRR _ _ H' s6 J1 g1 q)
  ·have z := T.item X' ePr eW eK (by rw [← hX']; exact hc) i [] s' _ H' (fun _ _ => False) I5 (stat fr5) st5 go
   rw [← ePr, ← eW] at z
   refine thn z fun r s6 zz => ?_
   obtain ⟨u, hr, h6⟩ := zz
   subst hr
   refine wpAny_bind (thn h6 fun _ s7 zz => ?_)
   obtain ⟨v, H7, I7, r7, y7, st7, fr7⟩ := zz
   have I7' := I7.pinned (stat fr7) (T.obj _ _ st7)
   rw [← eXe]
   refine wpAny_bind (thn (hg' _ s7 _ H7 v u _ I7' r7 (show Zqx 0 v (o :: Zo9 ci σ) H7 (fun σ8 H8 => σ8 = some v :: Zo9 ci σ ∧ H8 = H7) from ⟨rfl, rfl⟩)) fun _ s8 zz => ?_)
   obtain ⟨σ8, H8, I8, e8, e8'⟩ := zz
   subst e8 e8'
   refine wpAny_bind (thn (ht' _ s8 _ _ _ I8 (step v _ y7)) fun b s9 zz => ?_)
   obtain ⟨H9, I9, q9⟩ := zz
   have tnK : ∀ {σ' : L2.St} {H' : Hp} {s' : Shared}, Inv X' (([] : List (Addr × Obj)) ++ Zl0 fp s7.heap) σ' H' s' -> tn (i + 1) s'.heap ∧ ∀ b ∈ fp, H' b = none := fun {σ' H' s'} I' =>
    ⟨T.keep _ _ _ st7 fun b hb o e => (I'.pin (b, o) (List.mem_append_right _ (List.mem_append_right _ (Zer hb e)))).1, fun b hb => by
     obtain ⟨ob, e, d⟩ := T.obj _ _ st7 b hb
     exact (I'.pin (b, ob) (List.mem_append_right _ (List.mem_append_right _ (Zer hb e)))).2.1⟩
   cases b with
   | false =>
    obtain ⟨m', hm, w9⟩ := q9
    obtain ⟨t9, f9⟩ := tnK I9
    exact wpAny_pure ⟨rfl, m', hm, i + 1, _, ys, H9, I9.unpinned, t9, f9, w9⟩
   | true =>
    refine wpAny_bind (wpAny_bind (thn (he' _ s9 _ _ _ I9 q9) fun yv s10 zz => ?_))
    obtain ⟨y, H10, I10, r10, hp10, hz10, m', hm, w10⟩ := zz
    refine wpAny_bind (thn (Zk1 (X := X') _ s10 _ H10 (.ref s.heap.objs.size) [y] (.ref s.heap.objs.size) [yv] (fun _ H11 => H11 = upd H10 s.heap.objs.size (.lst (ys ++ [y]))) I10 rfl (.cons r10 .nil) ⟨_, ys, y, rfl, rfl, hp10, hz10, rfl⟩) fun _ s11 zz => ?_)
    obtain ⟨_, H11, I11, _, e11⟩ := zz
    subst e11
    obtain ⟨t11, f11⟩ := tnK I11
    exact wpAny_pure (wpAny_pure ⟨rfl, m', hm, i + 1, _, ys ++ [y], _, I11.unpinned, t11, f11, w10⟩)
 exact codeAny_compStart_list loop (T.self _ 0 _ _ _ (T.keep _ _ _ st (fun b hb o e => old4 b o (old3 b o e))) loop)
noncomputable def tLC (wi : TI) (ci : List Nat) (tt : TT) (te : TE) : TE := fun σ H Q => wi σ H fun J H1 => LcW J ci tt te σ Q H1
theorem pe_lc {elt iter : Expr} {px pos : Pos} {ifs : List Expr} {wi : TI} {tt : TT} {te : TE} (hc : X.calm = true) (B : BlkOk X scope x cn ci) (hi : PI X (.Name x px) iter wi)
  (ht : ∀ cl C s H fp pn, PTs (blk X scope (x :: cn) cl C s H fp pn) ifs tt) (he : ∀ cl C s H fp pn, PE (blk X scope (x :: cn) cl C s H fp pn) elt te)
  (hs : ∀ x, foldedSetIterable iter X.env x = pure x := by rintro _; rfl) : PE X (.ListComp elt [⟨.Name x px, iter, ifs, 0⟩] scope pos) (tLC wi ci tt te) := by
 intro pins s σ H Q I h
 rw [eval_ListComp]
 refine wpAny_comprehension_free (use := none) rfl hs (Zi7 X.env scope B.free) B.kind B.names ?_
 refine thn (hi pins s σ H _ I h) fun v s1 h1 => thn h1 fun itv s2 h2 => ?_
 obtain ⟨it, fp, tn, J, H2, e, I2, T, st2, f2, w2⟩ := h2
 subst e
 refine Znr (RR := fun acc C => compPost (model X.prog X.w) X.A X.xe none (EP X pins σ Q) acc C) I2 hc B T st2 f2 ht he w2 fun p C H' s' I' g q => ?_
 obtain ⟨m, hn⟩ := g.ns
 exact ⟨m, hn, fun h' hs' => ⟨.ref p, H', g.go I' hs', rfl, q⟩⟩
theorem Ztq {elt iter : Expr} {px py pos spos : Pos} {ifs : List Expr} {wi : TI} {tt : TT} {te : TE} {i : Nat} {y : Str} (hc : X.calm = true) (B : BlkOk X scope x cn ci) (hi : PI X (.Name x px) iter wi)
  (ht : ∀ cl C s H fp pn, PTs (blk X scope (x :: cn) cl C s H fp pn) ifs tt) (he : ∀ cl C s H fp pn, PE (blk X scope (x :: cn) cl C s H fp pn) elt te)
  (hN : X.N.Nodup) (hiN : X.N[i]? = some y) (hy : X.env.scope.names.lookup y = some .local)
  (hsw : swapsWith (.ListComp elt [⟨.Name x px, iter, ifs, 0⟩] scope pos) (some (.Name y py)) spos.line X.env = pure true := by rfl)
  (hs : ∀ x, foldedSetIterable iter X.env x = pure x := by rintro _; rfl) : PS X (.Assign [.Name y py] (.ListComp elt [⟨.Name x px, iter, ifs, 0⟩] scope pos) spos) (tAsg (tLC wi ci tt te) (Zqx i)) := by
 intro pins s σ H E I h
 rw [exec_Assign_Name_used _ _ _ _ hsw]
 refine wpAny_bind (wpAny_standAt (wpAny_bind ?_))
 show wpAny _ X.A (do let _ ← comprehension (.ListComp elt [⟨.Name x px, iter, ifs, 0⟩] scope pos) scope X.env _ (newList []) false (eval iter X.env) (some (assign (.Name y py) X.env))) _ _ s
 refine wpAny_bind (wpAny_mono (wpAny_comprehension_free (use := some (assign (.Name y py) X.env)) (Q := fun _ s' => SP X pins E .next s') rfl hs (Zi7 X.env scope B.free) B.kind B.names ?_) (fun _ s' hq => wpAny_pure (wpAny_pure hq)) fun _ _ e => e)
 refine thn (hi pins s σ H _ I h) fun v s1 h1 => thn h1 fun itv s2 h2 => ?_
 obtain ⟨it, fp, tn, J, H2, e, I2, T, st2, f2, w2⟩ := h2
 subst e
 refine Znr (RR := fun acc C => compPost (model X.prog X.w) X.A X.xe (some (assign (.Name y py) X.env)) (fun _ s' => SP X pins E .next s') acc C) I2 hc B T st2 f2 ht he w2 fun p C H' s' I' g q => ?_
 show wpAny _ X.A (assign (.Name y py) X.env (.ref p)) _ _ _
 have hk : X.env.kindOf y = some .local := hy
 refine wpAny_assign_Name (Zk8 I' hN hiN (.inl hy) (v := .ref p) (u := .ref p) rfl (fun s'' I'' ch => ?_) (.inr hy))
 obtain ⟨m, hn⟩ := g.ns
 obtain ⟨a, hsb, ha⟩ := ch
 have haC : C ≠ a := by
  rcases ha with ha | ha
  ·rw [ha]; exact g.nl
  ·exact Ne.symm (g.nc y a ha)
 have hn2 : s''.heap.Ns C m := hn.sameBut hsb haC
 exact ⟨m, hn2, fun h' hs' => ⟨_, H', Gone.go ⟨⟨m, hn2⟩, g.free, g.nl, g.up, g.nc, g.np⟩ I'' hs', q⟩⟩
end
noncomputable def Zx4 (ci : List Nat) (σd : SD) : SD := ci.map fun i => (σd[i]?).join
open Classical in
noncomputable def Zfj (own : Zjt) (c0 : SD) (tt : TF) (te : EF) : List D -> HD -> Option (List D × HD)
 | [], H => if Zeg own H then some ([], H) else none
 | x :: r, H => if Zeg own H then (tt (some x :: c0) H).bind fun t => if t.1 = true then (te (some x :: c0) t.2).bind fun e => (Zfj own c0 tt te r e.2).map fun q => (e.1 :: q.1, q.2) else Zfj own c0 tt te r t.2 else none
noncomputable def eLC (it : ItF) (ci : List Nat) (tt : TF) (te : EF) : EF := fun σ H => (it σ H).bind fun p => (Zfj p.1.2 (Zx4 ci σ) tt te p.1.1 p.2).bind fun q => mkL q.1 q.2
noncomputable def Zx2 : TF := fun _ H => some (true, H)
noncomputable def PTsf (X : Cx) (ifs : List Expr) (t : TF) : Prop := PTs X ifs (rdT X.K t)
section
variable {X : Cx} {scope : Scope} {x : Str} {cn : List Str} {ci : List Nat}
theorem Zjz : PTsf X [] Zx2 := by
 rintro pins s σ H Q I ⟨ι, σd, Hd, b, Hd', sr, hr, e, q⟩
 cases e
 exact Zxf pins s σ H Q I (q H ι Le.refl hr)
theorem Ztv {c : Expr} {t : TF} (h : PTf X c t) : PTsf X [c] t := Zv8 h
theorem SRep.cap {K : PySem.W.Frag} {H : Hp} {ι : List Addr} {σ : L2.St} {σd : SD} {d : D} {v : V} (s : SRep K H ι σ σd) (r : Rep K H ι d v) : SRep K H ι (some v :: Zo9 ci σ) (some d :: Zx4 ci σd) := by
 refine ⟨by simp [Zo9, Zx4], fun i e h => ?_⟩
 cases i with
 | zero => simp at h; subst h; exact ⟨v, rfl, r⟩
 | succ j =>
  simp only [List.getElem?_cons_succ, Zo9, Zx4, List.getElem?_map] at h ⊢
  cases ej : ci[j]? with
  | none => rw [ej] at h; simp at h
  | some i =>
   rw [ej] at h
   simp only [Option.map_some, Option.some.injEq] at h ⊢
   cases es : σd[i]? with
   | none => rw [es] at h; simp at h
   | some o =>
    rw [es] at h
    simp at h
    subst h
    obtain ⟨u, h1, h2⟩ := s.var i e es
    exact ⟨u, by rw [h1]; rfl, h2⟩
theorem Zy8 {K : PySem.W.Frag} {it : ItF} {tt : TF} {te : EF} {σ : L2.St} {H : Hp} {Q : VK} (h : rdE K (eLC it ci tt te) σ H Q) : tLC (rdI K it) ci (rdT K tt) (rdE K te) σ H Q := by
 obtain ⟨ι, σd, Hd, d, Hd', s, hr, e, q⟩ := h
 obtain ⟨⟨⟨xs, own⟩, H1⟩, e1, e⟩ := Zo e
 obtain ⟨⟨ds, H2⟩, e2, e⟩ := Zo e
 obtain ⟨hz, e⟩ := Zm3 e
 cases e
 dsimp only at e2 hz
 refine ⟨ι, σd, Hd, xs, own, H1, s, hr, e1, fun J H0 ι0 l0 h0 itr p hp => ?_⟩
 have s0 := s.mono l0
 refine ⟨fun i m ys H => m = xs.length - i ∧ i ≤ xs.length ∧ H p = some (.lst ys) ∧ ∃ ι Hd done Zck, Le K H0 ι0 H ι ∧ p ∉ ι ∧ HRep K H ι Hd ∧ Paired (Rep K H ι) done ys ∧ Zfj own (Zx4 ci σd) tt te (xs.drop i) Hd = some (Zck, H2) ∧ ds = done ++ Zck,
  ⟨xs.length, by simp, Nat.zero_le _, Zaq, ι0, H1, [], ds, Le.fresh hp _, h0.fresh hp, h0.tup hp _, .nil, by simpa using e2, by simp⟩, ?_⟩
 rintro i m ys H5 ⟨rfl, hi, hpl, ι5, Hd5, done, Zck, l5, np5, h5, pd5, e5, eds⟩
 refine ⟨hpl, ?_⟩
 by_cases hlt : i < xs.length
 ·have ed : xs.drop i = xs[i] :: xs.drop (i + 1) := List.drop_eq_getElem_cons hlt
  rw [ed, Zfj] at e5
  split at e5
  ·rename_i ok
   obtain ⟨⟨b6, H6⟩, e6, e5⟩ := Zo e5
   refine .inr ⟨itr.go i H5 ι5 Hd5 l5 h5 ok hlt, fun v H' y => ?_⟩
   obtain ⟨ι6, l6, h6, r6⟩ := itr.yld i H5 ι5 Hd5 xs[i] v H' l5 h5 ok (by simp [hlt]) y
   obtain ⟨hp6, np6⟩ := l6.frame p _ hpl np5
   have s6 := SRep.cap (ci := ci) (s0.mono (l5.trans l6)) r6
   refine ⟨ι6, _, Hd5, b6, H6, s6, h6, e6, fun H7 ι7 l7 h7 => ?_⟩
   obtain ⟨hp7, np7⟩ := l7.frame p _ hp6 np6
   have L7 := (l5.trans l6).trans l7
   cases b6 with
   | true =>
    rw [if_pos rfl]
    dsimp only at e5
    rw [if_pos rfl] at e5
    obtain ⟨⟨d8, H8⟩, e8, e5⟩ := Zo e5
    obtain ⟨⟨r9, H9⟩, e9, e5⟩ := Zm e5
    cases e5
    refine ⟨ι7, _, H6, d8, H8, s6.mono l7, h7, e8, fun v8 H8' ι8 l8 h8 rr8 => ?_⟩
    obtain ⟨hp8, np8⟩ := l8.frame p _ hp7 np7
    have ly : ys.length < sizeLine := by
     rw [← Prd.len pd5]
     rw [eds] at hz
     simp at hz
     omega
    have w8 : Lw K H8' ι8 (upd H8' p (.lst (ys ++ [v8]))) ι8 := Lw.side hp8 _
    refine ⟨hp8, ly, xs.length - (i + 1), by omega, rfl, hlt, Zaq, ι8, H8, done ++ [d8], r9, (L7.trans l8).side hp hp8 _, np8, h8.keep w8 (fun a ha => Zaj fun z => by subst z; exact np8 ha), ?_, e9, by rw [eds]; simp⟩
    exact Prd.append (Prd.monoW w8 (Prd.mono ((l6.trans l7).trans l8) pd5)) (.cons (Rep.monoW w8 rr8) .nil)
   | false =>
    rw [if_neg (by simp)]
    dsimp only at e5
    rw [if_neg (by simp)] at e5
    exact ⟨xs.length - (i + 1), by omega, rfl, hlt, hp7, ι7, H6, done, Zck, L7, np7, h7, Prd.mono (l6.trans l7) pd5, e5, eds⟩
  ·cases e5
 ·rw [List.drop_eq_nil_of_le (by omega), Zfj] at e5
  split at e5
  ·rename_i ok
   have e6 : (([] : List D), Hd5) = (Zck, H2) := Option.some.inj e5
   obtain ⟨rfl, rfl⟩ := Prod.mk.inj e6
   refine .inl ⟨itr.stop i H5 ι5 _ l5 h5 ok (by omega), ?_⟩
   have w5 : Lw K H5 ι5 H5 (ι5 ++ [p]) := ⟨fun _ _ z => z, fun _ _ z => z, ⟨[p], rfl⟩, fun _ _ _ z => z⟩
   have L := l0.trans l5
   simp at eds
   subst eds
   refine q _ H5 (ι5 ++ [p]) ⟨L.toLw.trans w5, fun a o ha na => ?_⟩ (h5.add np5 ⟨ys, hpl, Prd.monoW w5 pd5⟩) (Zak.mpr ⟨p, rfl, by rw [← h5.len]; simp⟩)
   obtain ⟨q1, q2⟩ := L.frame a o ha na
   refine ⟨q1, ?_⟩
   have : a ≠ p := fun z => by
    subst z
    have := (l0.frame a o ha na).1
    rw [hp] at this; cases this
   simp [q2, this]
  ·cases e5
theorem Zpl {elt iter : Expr} {px pos : Pos} {ifs : List Expr} {it : ItF} {tt : TF} {te : EF} (hc : X.calm = true) (B : BlkOk X scope x cn ci) (hi : PIf X (.Name x px) iter it)
  (ht : ∀ cl C s H fp pn, PTsf (blk X scope (x :: cn) cl C s H fp pn) ifs tt) (he : ∀ cl C s H fp pn, PEf (blk X scope (x :: cn) cl C s H fp pn) elt te)
  (hs : ∀ x, foldedSetIterable iter X.env x = pure x := by rintro _; rfl) : PEf X (.ListComp elt [⟨.Name x px, iter, ifs, 0⟩] scope pos) (eLC it ci tt te) :=
 PEi (pe_lc (tt := rdT X.K tt) (te := rdE X.K te) hc B hi ht he hs) fun _ _ _ h => Zy8 h
theorem Zrj {elt iter : Expr} {px py pos spos : Pos} {ifs : List Expr} {it : ItF} {tt : TF} {te : EF} {i : Nat} {y : Str} (hc : X.calm = true) (B : BlkOk X scope x cn ci) (hi : PIf X (.Name x px) iter it)
  (ht : ∀ cl C s H fp pn, PTsf (blk X scope (x :: cn) cl C s H fp pn) ifs tt) (he : ∀ cl C s H fp pn, PEf (blk X scope (x :: cn) cl C s H fp pn) elt te)
  (hN : X.N.Nodup) (hiN : X.N[i]? = some y) (hy : X.env.scope.names.lookup y = some .local)
  (hsw : swapsWith (.ListComp elt [⟨.Name x px, iter, ifs, 0⟩] scope pos) (some (.Name y py)) spos.line X.env = pure true := by rfl)
  (hs : ∀ x, foldedSetIterable iter X.env x = pure x := by rintro _; rfl) : PSf X (.Assign [.Name y py] (.ListComp elt [⟨.Name x px, iter, ifs, 0⟩] scope pos) spos) (Zbu i (eLC it ci tt te)) := by
 refine PSi (Ztq (tt := rdT X.K tt) (te := rdE X.K te) hc B hi ht he hN hiN hy hsw hs) fun E σ H zz => ?_
 obtain ⟨ι, σd, Hd, fl, σd', Hd', s, hr, e, q⟩ := zz
 obtain ⟨⟨x, H1⟩, e1, e⟩ := Zm e
 cases e
 exact Zy8 ⟨ι, σd, Hd, x, H1, s, hr, e1, fun v H' ι' l h r => q _ H' ι' l h ((s.mono l).set r i)⟩
end
theorem Zw5 : fillsNumberSlot (.type "tuple") "mul" = pure false :=
 PySem.fillsNumberSlot_seq (id := "tuple.__mul__") (r := some (.builtin "tuple.__rmul__")) F.slot_tuple_mul.lookup (by decide +kernel) F.slot_tuple_rmul.lookup (by decide +kernel)
theorem repT : seqRepeat? (.type "tuple") = pure (some (.builtin "tuple.__mul__")) := by
 unfold seqRepeat?
 rw [PySem.seqSlot_of (T := "tuple") (name := "__mul__") (id := "tuple.__mul__") F.slot_tuple_mul.lookup (by decide +kernel), PySem.seqSlot_of (T := "tuple") (name := "__rmul__") (id := "tuple.__rmul__") F.slot_tuple_rmul.lookup (by decide +kernel)]
 rfl
section
variable {dd : Option Addr} {sl : Array (Option Value)}
theorem rmulT (a : Int) (t : Tok) (l : Addr) (items : Array Value) (n : Nat) :
  Meets (Builtin.«int.__rmul__» ⟨[.int a t, .ref l], []⟩) (fun _ R s => s.heap.get? l = some { cls := .type "tuple", dict := dd, data := .seq items n, slots := sl } ∧ R (.ok (.ret Value.notImplemented)) s) :=
 .of_wp fun prog w A R s h => by obtain ⟨hp, g, d, tk, os⟩ := s; obtain ⟨hl, h⟩ := h; wp_walk; exact ⟨_, rfl, h⟩
theorem Zp4 (l : Addr) (items : Array Value) (n : Nat) (x : Int) (u : Tok) (h1 : (decide (x < -(2 ^ 63)) || decide (x ≥ 2 ^ 63)) = false) (h2 : (items.isEmpty || x == 1) = true) :
  Meets (Builtin.«tuple.__mul__» ⟨[.ref l, .int x u], []⟩) (fun _ R s => s.heap.get? l = some { cls := .type "tuple", dict := dd, data := .seq items n, slots := sl } ∧ R (.ok (.ret (.ref l))) s) :=
 .of_wp fun prog w A R s h => by
  obtain ⟨hp, g, d, tk, os⟩ := s; obtain ⟨hl, h⟩ := h
  have f1 := AutoSeq1.idx_int
  wp_walk
  simp only [h1, Bool.false_eq_true, if_false]
  wp_walk using wpAny_loadPart' hl
  simp only [h2, if_true]
  wp_walk using wpAny_loadPart' hl
  exact ⟨_, rfl, h⟩
theorem Zrt (l : Addr) (items : Array Value) (n : Nat) (x : Int) (u : Tok) (h1 : (decide (x < -(2 ^ 63)) || decide (x ≥ 2 ^ 63)) = false) (h2 : (items.isEmpty || x == 1) = false) (h3 : (decide (x ≤ 0) || items.isEmpty) = true) :
  Meets (Builtin.«tuple.__mul__» ⟨[.ref l, .int x u], []⟩) (fun _ R s => s.heap.get? l = some { cls := .type "tuple", dict := dd, data := .seq items n, slots := sl } ∧ R (.ok (.ret (.ref s.heap.objs.size))) { s with heap := s.heap.push { cls := Value.type "tuple", data := Data.seq #[] } }) :=
 .of_wp fun prog w A R s h => by
  obtain ⟨hp, g, d, tk, os⟩ := s; obtain ⟨hl, h⟩ := h
  have f1 := AutoSeq1.idx_int
  wp_walk
  simp only [h1, Bool.false_eq_true, if_false]
  wp_walk using wpAny_loadPart' hl
  try simp only [h2, h3, Bool.false_eq_true, if_false, if_true]
  try (wp_walk using wpAny_loadPart' hl)
  exact ⟨_, rfl, h⟩
theorem Zsw (l : Addr) (items : Array Value) (n : Nat) (x : Int) (u : Tok) (h1 : (decide (x < -(2 ^ 63)) || decide (x ≥ 2 ^ 63)) = false) (h2 : (items.isEmpty || x == 1) = false) (h3 : (decide (x ≤ 0) || items.isEmpty) = false) (h4 : ¬ (items.size * x : Int) > (2 ^ 63 - 1) / 8) (h5 : Builtin.Tuple.tupleTooMany (items.size * x) = false)
  (hs : (List.foldl (fun x1 x2 => x1 ++ x2) #[] (List.replicate x.toNat items)).size ≤ sizeLine) :
  Meets (Builtin.«tuple.__mul__» ⟨[.ref l, .int x u], []⟩) (fun _ R s => s.heap.get? l = some { cls := .type "tuple", dict := dd, data := .seq items n, slots := sl } ∧ R (.ok (.ret (.ref s.heap.objs.size))) { s with heap := s.heap.push { cls := Value.type "tuple", data := Data.seq (List.foldl (fun x1 x2 => x1 ++ x2) #[] (List.replicate x.toNat items)) } }) :=
 .of_wp fun prog w A R s h => by
  obtain ⟨hp, g, d, tk, os⟩ := s; obtain ⟨hl, h⟩ := h
  have f1 := AutoSeq1.idx_int
  wp_walk
  simp only [h1, Bool.false_eq_true, if_false]
  wp_walk using wpAny_loadPart' hl
  simp only [h2, h3, h5, Bool.false_eq_true, if_false, if_neg h4]
  wp_walk using wpAny_loadPart' hl
  exact ⟨_, rfl, h⟩
end
theorem Ziw (its : List Value) (m : Nat) : List.foldl (fun x1 x2 => x1 ++ x2) #[] (List.replicate m its.toArray) = (List.replicate m its).flatten.toArray := by
 have := Zhi its m []
 rw [List.nil_append] at this
 exact this
section
variable {prog : Program} {w : World} {A : Around} {E : Value -> Shared -> Prop} {s : Shared}
theorem Zxj {l : Addr} {its : List Value} {k : Int} {t : Tok} {Q : Value -> Shared -> Prop} (p : IsTup s.heap l its.toArray) (h1 : -(2 ^ 63) ≤ k) (h2 : k < 2 ^ 63) (hz : its.length * k.toNat ≤ sizeLine)
  (qs : (its = [] ∨ k = 1) → Q (.ref l) s) (qn : its ≠ [] → k ≠ 1 → Q (.ref s.heap.objs.size) { s with heap := s.heap.push { cls := .type "tuple", data := .seq (List.replicate k.toNat its).flatten.toArray } }) :
  wpAny (model prog w) A (binaryOp .Mult (.ref l) (.int k t)) Q E s := by
 obtain ⟨o, e, hc, n, hd⟩ := p
 obtain ⟨c, dd, da, sl⟩ := o
 have hc' : c = .type "tuple" := hc
 have hd' : da = .seq its.toArray n := hd
 subst hc' hd'
 have b1 : (decide (k < -(2 ^ 63)) || decide (k ≥ 2 ^ 63)) = false := by simp; omega
 refine wpAny_binaryOp_repeat_ref (T := "tuple") (U := "int") (by decide) ⟨_, e, rfl⟩ (fun s' => typeIs_int s' k t) Zw5 F.fills_int_mul F.slot_int_rmul repT F.slot_int_index.lookup
  (call_meets F.slot_int_rmul (typeIs_int s k t) F.entry_int_rmul (F.args_int_rmul_2 _ _) (rmulT k t l its.toArray n) ⟨e, rfl, ⟨_, e, rfl⟩, ?_⟩)
 by_cases hs : its = [] ∨ k = 1
 ·exact call_meets F.slot_tuple_mul ⟨_, e, rfl⟩ F.entry_tuple_mul (F.args_tuple_mul_2 _ _) (Zp4 l its.toArray n k t b1 (by rcases hs with h | h <;> simp [h])) ⟨e, qs hs⟩
 ·have hne : its ≠ [] := fun h => hs (.inl h)
  have hk : k ≠ 1 := fun h => hs (.inr h)
  have b2 : (its.toArray.isEmpty || k == 1) = false := by cases its <;> simp_all
  have new := qn hne hk
  by_cases h0 : k ≤ 0
  ·have z : k.toNat = 0 := by omega
   rw [z] at new
   exact call_meets F.slot_tuple_mul ⟨_, e, rfl⟩ F.entry_tuple_mul (F.args_tuple_mul_2 _ _) (Zrt l its.toArray n k t b1 b2 (by simp [h0])) ⟨e, new⟩
  ·have sz : sizeLine = 16777216 := PySem.sizeLine_eq
   have hm : (its.toArray.size : Int) * k ≤ 16777216 := by
    have e1 : k = (k.toNat : Int) := by omega
    rw [List.size_toArray, e1, ← Int.natCast_mul]
    omega
   have b3 : (decide (k ≤ 0) || its.toArray.isEmpty) = false := by cases its <;> simp_all
   refine call_meets F.slot_tuple_mul ⟨_, e, rfl⟩ F.entry_tuple_mul (F.args_tuple_mul_2 _ _) (Zsw l its.toArray n k t b1 b2 b3 (by omega) (by simp only [Builtin.Tuple.tupleTooMany, decide_eq_false_iff_not, sz]; omega) ?_) ⟨e, ?_⟩
   ·rw [Ziw, List.size_toArray, Zmt, Nat.mul_comm]; exact hz
   ·rw [Ziw]; exact new
end
variable {X : Cx}
noncomputable def rRepT (K : PySem.W.Frag) : R2 := fun x y H Q => ∃ l k xs, x = .ref l ∧ y = .int k ∧ SqT K H l xs ∧ -(2 ^ 63) ≤ k ∧ k < 2 ^ 63 ∧ xs.length * k.toNat ≤ sizeLine ∧ ((xs = [] ∨ k = 1) -> Q (.ref l) H) ∧
 (xs ≠ [] -> k ≠ 1 -> ∀ p, H p = none -> Q (.ref p) (upd H p (.tup (List.replicate k.toNat xs).flatten)))
theorem Zw6 : OpR X (binaryOp .Mult) (rRepT X.K) := by
 intro pins s σ H x y v u Q I rx ry h
 obtain ⟨l, k, xs, rfl, rfl, ha, h1, h2, hz, q1, q2⟩ := h
 cases rx
 obtain ⟨t, rfl⟩ := ry
 obtain ⟨its, r1, p1, _⟩ := I.tuple ha
 refine Zxj p1 h1 h2 (by rw [← r1.length]; exact hz) (fun z => ⟨.ref l, H, I, rfl, q1 (z.imp r1.nil_iff.mp id)⟩) (fun z zk => ?_)
 refine ⟨.ref s.heap.objs.size, _, I.laid (t' := s.toks) (o := .tup (List.replicate k.toNat xs).flatten) (fun b ob q => Heap.get?_push_of_some _ q) (Nat.le_refl _) ?_, rfl, q2 (fun w => z (r1.nil_iff.mpr w)) zk _ (I.hok.fresh (Nat.le_refl _))⟩
 exact ⟨by rw [Zmt, Nat.mul_comm]; exact hz, _, r1.rep k.toNat, Zil.new _ _⟩
section
variable {X : Cx}
noncomputable def iiD (C : Int -> Int -> Prop) [∀ i j, Decidable (C i j)] (g : Int -> Int -> D) : F2 := fun x y H => match x, y with
 | .int i, .int j => if C i j then some (g i j, H) else none
 | _, _ => none
theorem Znp {f : Value -> Value -> Sem Value} {C : Int -> Int -> Prop} [∀ i j, Decidable (C i j)] {g : Int -> Int -> Int} (h : OpR X f (rI C fun i j => .int (g i j))) : OpF X f (iiD C fun i j => .int (g i j)) := by
 refine OpRi h fun x y H Q zz => ?_
 obtain ⟨ι, dx, dy, Hd, d, Hd', hr, r1, r2, e, q⟩ := zz
 cases dx <;> cases dy <;> simp only [iiD] at e <;> try cases e
 rename_i i j
 split at e
 ·rename_i hc
  cases e
  simp at r1 r2
  exact ⟨i, j, r1, r2, hc, q _ H ι Le.refl hr (by simp)⟩
 ·cases e
noncomputable def CT (_ _ : Int) : Prop := True
instance : ∀ i j, Decidable (CT i j) := fun _ _ => instDecidableTrue
theorem Zzp {f : Value -> Value -> Sem Value} {g : Int -> Int -> V} (h : OpR X f (rI0 g)) : OpR X f (rI CT g) := OpRi h fun x y H Q ⟨i, j, e1, e2, _, q⟩ => ⟨i, j, e1, e2, q⟩
theorem Zn1 {f : Value -> Value -> Sem Value} {g : Int -> Int -> Bool} (h : OpR X f (rI0 fun i j => .bl (g i j))) : OpF X f (iiD CT fun i j => .bl (g i j)) := by
 refine OpRi h fun x y H Q zz => ?_
 obtain ⟨ι, dx, dy, Hd, d, Hd', hr, r1, r2, e, q⟩ := zz
 cases dx <;> cases dy <;> simp only [iiD] at e <;> try cases e
 rename_i i j
 simp at r1 r2
 exact ⟨i, j, r1, r2, q _ H ι Le.refl hr (by simp)⟩
instance (i j : Int) : Decidable (Yab i j) := by unfold Yab; exact inferInstance
instance (i j : Int) : Decidable (Zvg i j) := by unfold Zvg; exact inferInstance
instance (i j : Int) : Decidable (Yaf i j) := by unfold Yaf; exact inferInstance
noncomputable def Zza (_ j : Int) : Prop := 0 < j
instance (i j : Int) : Decidable (Zza i j) := by unfold Zza; exact inferInstance
noncomputable def Zmz : F2 := iiD CT fun i j => .int (i - j)
noncomputable def Zoy : F2 := iiD Yab fun i j => .int (i / j)
noncomputable def Zdq : F2 := iiD Zza fun i j => .int (i % j)
noncomputable def Zsl : F2 := iiD Yaf fun i j => .int (i ^ j.toNat)
noncomputable def ltD : F2 := iiD CT fun i j => .bl (decide (i < j))
noncomputable def leD : F2 := iiD CT fun i j => .bl (decide (i ≤ j))
noncomputable def gtD : F2 := iiD CT fun i j => .bl (decide (j < i))
noncomputable def geD : F2 := iiD CT fun i j => .bl (decide (j ≤ i))
theorem Zhg : OpF X (binaryOp .Sub) Zmz := Znp (Zzp Zz8)
theorem Zjl : OpF X (binaryOp .FloorDiv) Zoy := Znp Zxn
theorem Zdr : OpF X (binaryOp .Mod) Zdq := Znp (C := Zza) Zy1
theorem Zmh : OpF X (binaryOp .Pow) Zsl := Znp Zzy
theorem Zn5 : OpF X (compareOp .Lt) ltD := Zn1 op_lt
theorem Zuu : OpF X (compareOp .LtE) leD := Zn1 op_le
theorem Zi3 : OpF X (compareOp .Gt) gtD := Zn1 op_gt
theorem Zsg : OpF X (compareOp .GtE) geD := Zn1 op_ge
noncomputable def Zmq : D -> HD -> Option (D × HD) := fun x H => match x with
 | .int i => some (.int (-i), H)
 | _ => none
theorem Zkk : UnF X (unaryOp .USub) Zmq := by
 rintro pins s σ H x v Q I rx ⟨ι, dx, Hd, d, Hd', hr, r1, e, q⟩
 cases dx <;> simp only [Zmq] at e <;> try cases e
 simp at r1
 exact Yar pins s σ H x v Q I rx ⟨_, r1, q _ H ι Le.refl hr (by simp)⟩
theorem Zsm {prog : Program} {w : World} {A : Around} {E : Value -> Shared -> Prop} {s : Shared} {t b : Addr} {ws : List Value} {Q : Value -> Shared -> Prop} (ht : IsTup s.heap t #[]) (hb : IsTup s.heap b ws.toArray)
  (h1 : Q (.ref b) s) : wpAny (model prog w) A (binaryOp .Add (.ref t) (.ref b)) Q E s := by
 obtain ⟨⟨cls, dd, data, sl⟩, ho, hc, n, hd⟩ := id ht
 obtain ⟨⟨cls2, dd2, data2, sl2⟩, ho2, hc2, n2, hd2⟩ := id hb
 simp only at hc hd hc2 hd2
 subst hc hd hc2 hd2
 exact concat_meets ⟨_, ho, rfl⟩ ⟨_, ho2, rfl⟩ noFill_tuple_add seq_tuple_add PySem.F.slot_tuple_add PySem.F.entry_tuple_add (PySem.F.args_tuple_add_2 _ _)
   (tuple_addW0 t b #[] ws.toArray n n2 dd dd2 sl sl2 (by simp)) ⟨ho, ho2, h1⟩
noncomputable def Zbn : F2 := fun x y H => match x, y with
 | .int i, .int j => some (.int (i + j), H)
 | .str a, .str b => if a.length + b.length ≤ sizeLine then some (.str (a ++ b), H) else none
 | .tup a, .tup b => mkT (a ++ b) H
 | .ref n, .ref m => match H[n]?, H[m]? with
  | some (.lst a), some (.lst b) => mkL (a ++ b) H
  | _, _ => none
 | _, _ => none
theorem Zbi : OpF X (binaryOp .Add) Zbn := by
 rintro pins s σ H x y v u Q I rx ry ⟨ι, dx, dy, Hd, d, Hd', hr, r1, r2, e, q⟩
 cases dx <;> cases dy <;> simp only [Zbn] at e <;> try cases e
 ·simp at r1 r2
  exact Zz0 pins s σ H x y v u Q I rx ry ⟨_, _, r1, r2, q _ H ι Le.refl hr (by simp)⟩
 ·simp at r1 r2
  split at e
  ·rename_i hl
   cases e
   exact Zoo pins s σ H x y v u Q I rx ry ⟨_, _, r1, r2, hl, q _ H ι Le.refl hr (by simp)⟩
  ·cases e
 ·rename_i as bs
  obtain ⟨a, vs, rfl, h1, p1⟩ := Za4.mp r1
  obtain ⟨b, ws, rfl, h2, p2⟩ := Za4.mp r2
  cases p1 with
  | nil =>
   obtain ⟨hl, e⟩ := Zg6 e
   simp only [List.nil_append, Prod.mk.injEq] at e
   obtain ⟨rfl, rfl⟩ := e
   cases rx
   cases ry
   obtain ⟨its, q1, t1, _⟩ := I.tuple h1
   obtain ⟨its2, q2, t2, _⟩ := I.tuple h2
   cases q1
   exact Zsm t1 t2 ⟨.ref b, H, I, rfl, q _ H ι Le.refl hr r2⟩
  | cons p p' =>
   have P := Prd.append (.cons p p') p2
   obtain ⟨hl, e'⟩ := Zg6 e
   cases p2 with
   | nil =>
    simp only [List.append_nil, Prod.mk.injEq] at e'
    obtain ⟨rfl, rfl⟩ := e'
    refine Zr9 pins s σ H _ _ v u Q I rx ry ⟨a, b, _, _, rfl, rfl, h1, h2, by simp, ?_, fun _ => q _ H ι Le.refl hr r1, fun z => absurd rfl z⟩
    have := Prd.len P
    simp only [List.append_nil] at this hl
    simp only [List.length_nil]
    omega
   | cons p3 p4 =>
    obtain ⟨k1, k2⟩ := Zf6 hr P e q
    refine Zr9 pins s σ H _ _ v u Q I rx ry ⟨a, b, _, _, rfl, rfl, h1, h2, by simp, ?_, fun z => absurd z (by simp), fun _ => k2⟩
    rw [← List.length_append]; exact k1
 ·rename_i n m
  obtain ⟨a, rfl, ha⟩ := Zak.mp r1
  obtain ⟨b, rfl, hb⟩ := Zak.mp r2
  split at e
  ·rename_i as bs e1 e2
   obtain ⟨vs, h1, p1⟩ := hr.obj n a _ ha e1
   obtain ⟨ws, h2, p2⟩ := hr.obj m b _ hb e2
   obtain ⟨k1, k2⟩ := Zh9 hr (Prd.append p1 p2) e q
   exact Zyo pins s σ H _ _ v u Q I rx ry ⟨a, b, vs, ws, rfl, rfl, h1, h2, by rw [← List.length_append]; exact k1, k2⟩
  ·cases e
noncomputable def Znl : F2 := fun x y H => match x, y with
 | .int i, .int j => if Zvg i j then some (.int (i * j), H) else none
 | .ref n, .int k => match H[n]? with
  | some (.lst a) => if -(2 ^ 63) ≤ k ∧ k < 2 ^ 63 ∧ a.length * k.toNat ≤ sizeLine then mkL (List.replicate k.toNat a).flatten H else none
  | _ => none
 | .tup a, .int k => if -(2 ^ 63) ≤ k ∧ k < 2 ^ 63 ∧ a.length * k.toNat ≤ sizeLine then mkT (List.replicate k.toNat a).flatten H else none
 | _, _ => none
theorem Zgg : OpF X (binaryOp .Mult) Znl := by
 rintro pins s σ H x y v u Q I rx ry ⟨ι, dx, dy, Hd, d, Hd', hr, r1, r2, e, q⟩
 cases dx <;> cases dy <;> simp only [Znl] at e <;> try cases e
 ·simp at r1 r2
  split at e
  ·rename_i hc
   cases e
   exact Zyx pins s σ H x y v u Q I rx ry ⟨_, _, r1, r2, hc, q _ H ι Le.refl hr (by simp)⟩
  ·cases e
 ·rename_i as k
  obtain ⟨a, vs, rfl, h1, p1⟩ := Za4.mp r1
  simp at r2
  split at e
  ·rename_i hc
   have hlen := Prd.len p1
   obtain ⟨k1, k2⟩ := Zf6 hr (Prd.rep p1 k.toNat) e q
   refine Zw6 pins s σ H _ _ v u Q I rx ry ⟨a, k, vs, rfl, r2, h1, hc.1, hc.2.1, by rw [← hlen]; exact hc.2.2, fun z => ?_, fun _ _ => k2⟩
   obtain ⟨_, e'⟩ := Zg6 e
   have hf : (List.replicate k.toNat as).flatten = as := by
    rcases z with z | z
    ·have : as = [] := List.eq_nil_of_length_eq_zero (by rw [hlen, z]; rfl)
     subst this
     simp
    ·subst z
     simp
   rw [hf] at e'
   cases e'
   exact q _ H ι Le.refl hr r1
  ·cases e
 ·rename_i n k
  obtain ⟨a, rfl, ha⟩ := Zak.mp r1
  simp at r2
  split at e
  ·rename_i as e1
   obtain ⟨vs, h1, p1⟩ := hr.obj n a _ ha e1
   split at e
   ·rename_i hc
    obtain ⟨k1, k2⟩ := Zh9 hr (Prd.rep p1 _) e q
    exact Zyn pins s σ H _ _ v u Q I rx ry ⟨a, k, vs, rfl, r2, h1, hc.1, hc.2.1, by rw [← Prd.len p1]; exact hc.2.2, k2⟩
   ·cases e
  ·cases e
noncomputable def Zkw : D -> HD -> Option (List D)
 | .tup xs, _ => some xs
 | .fl xs, _ => some xs
 | .ref n, H => match H[n]? with
  | some (.lst xs) => some xs
  | _ => none
 | _, _ => none
theorem Znb {K : PySem.W.Frag} {H : Hp} {ι : List Addr} {Hd : HD} {d : D} {xs : List D} {v : V} (hr : HRep K H ι Hd) (r : Rep K H ι d v) (e : Zkw d Hd = some xs) : ∃ p vs, v = .ref p ∧ (SqL K H p vs ∨ SqT K H p vs) ∧ Paired (Rep K H ι) xs vs := by
 cases d with
 | tup ys => cases e; obtain ⟨a, vs, rfl, h, p⟩ := Za4.mp r; exact ⟨a, vs, rfl, .inr h, p⟩
 | fl ys => cases e; obtain ⟨a, vs, rfl, h, p⟩ := Zfw.mp r; exact ⟨a, vs, rfl, .inl h.sq, p⟩
 | ref n =>
  obtain ⟨a, rfl, ha⟩ := Zak.mp r
  simp only [Zkw] at e
  split at e
  ·rename_i ys e1
   cases e
   obtain ⟨vs, h1, p1⟩ := hr.obj n a _ ha e1
   exact ⟨a, vs, rfl, .inl (SqL.of h1), p1⟩
  ·cases e
 | _ => simp [Zkw] at e
theorem Zvr {α β : Type} {F : α -> β -> Prop} {xs : List α} {us : List β} {i : Int} {x : α} (r : Paired F xs us) (h : atI xs i = some x) : ∃ u, atI us i = some u ∧ F x u := by
 unfold atI at h ⊢
 rw [← Prd.len r]
 obtain ⟨j, h1, h2⟩ := Zo h
 obtain ⟨u, h3, h4⟩ := Prd.get r h2
 exact ⟨u, by rw [h1]; exact h3, h4⟩
noncomputable def ixD : F2 := fun x y H => match y with
 | .int i => (Zkw x H).bind fun xs => (atI xs i).map fun d => (d, H)
 | _ => none
theorem ixf : IxF X ixD := by
 rintro va sl pins s σ H x y v u Q I rx ry ⟨ι, dx, dy, Hd, d, Hd', hr, r1, r2, e, q⟩ hs
 cases dy <;> simp only [ixD] at e <;> try cases e
 rename_i i
 simp at r2
 obtain ⟨xs, e1, e⟩ := Zo e
 obtain ⟨d', e2, e⟩ := Zm e
 obtain ⟨rfl, rfl⟩ := Prod.mk.inj e
 obtain ⟨p, vs, rfl, h, P⟩ := Znb hr r1 e1
 obtain ⟨z, hz, rz⟩ := Zvr P e2
 rcases h with h | h
 ·exact Zxm va sl pins s σ H _ _ v u Q I rx ry ⟨p, vs, i, z, rfl, r2, h, hz, q _ H ι Le.refl hr rz⟩ hs
 ·exact Zy0 va sl pins s σ H _ _ v u Q I rx ry ⟨p, vs, i, z, rfl, r2, h, hz, q _ H ι Le.refl hr rz⟩ hs
noncomputable def Zzh : Zvm := fun o i v H => match o, i with
 | .ref n, .int k => match H[n]? with
  | some (.lst xs) => (ixN xs.length k).map fun j => H.set n (.lst (xs.set j v))
  | _ => none
 | _, _ => none
theorem setf : Zvp X Zzh := by
 rintro pins s σ H o i v ov iv u Q I ro ri rv ⟨ι, od, id, vd, Hd, Hd', hr, r1, r2, r3, e, q⟩
 cases od <;> cases id <;> simp only [Zzh] at e <;> try cases e
 rename_i n k
 obtain ⟨a, rfl, ha⟩ := Zak.mp r1
 simp at r2
 split at e
 ·rename_i xs e1
  obtain ⟨j, e2, e⟩ := Zm e
  subst e
  obtain ⟨vs, h1, P⟩ := hr.obj n a _ ha e1
  refine Zug pins s σ H _ _ v ov iv u Q I ro ri rv ⟨a, vs, k, j, rfl, r2, h1, by rw [← Prd.len P]; exact e2, ?_⟩
  have L : Le X.K H ι (upd H a (.lst (vs.set j v))) ι := Le.upd (List.mem_of_getElem? ha) h1 trivial _
  exact q _ ι L (hr.upd ha h1 trivial ⟨_, Zaq, Prd.set (r3.mono L) j (Prd.mono L P)⟩)
 ·cases e
noncomputable def Zl2 (xs : List D) (lo hi : Option Int) : List D := (xs.drop (HT.sIx xs.length 0 lo)).take (HT.sIx xs.length xs.length hi - HT.sIx xs.length 0 lo)
theorem Zkj {K : PySem.W.Frag} {H : Hp} {ι : List Addr} {xs : List D} {vs : List V} (P : Paired (Rep K H ι) xs vs) (lo hi : Option Int) : Paired (Rep K H ι) (Zl2 xs lo hi) (Zu6 vs lo hi) := by
 unfold Zl2 Zu6
 rw [← Prd.len P]
 exact Prd.take _ (Prd.drop _ P)
noncomputable abbrev OF := SD -> HD -> Option (Option Int × HD)
noncomputable def rdO (K : PySem.W.Frag) (f : OF) : TO := fun σ H Q => ∃ ι σd Hd o Hd', SRep K H ι σ σd ∧ HRep K H ι Hd ∧ f σd Hd = some (o, Hd') ∧ ∀ H' ι', Le K H ι H' ι' -> HRep K H' ι' Hd' -> Q o H'
noncomputable def POf (X : Cx) (e : Option Expr) (f : OF) : Prop := PO X e (rdO X.K f)
noncomputable def Zcg : OF := fun _ H => some (none, H)
noncomputable def Zb4 (f : EF) : OF := fun σ H => (f σ H).bind fun p => match p.1 with
 | .int i => some (some i, p.2)
 | _ => none
theorem Zcw : POf X none Zcg := by
 rintro pins s σ H Q I ⟨ι, σd, Hd, o, Hd', sr, hr, e, q⟩
 cases e
 exact Zv6 pins s σ H Q I (q H ι Le.refl hr)
theorem Zdp {e : Expr} {f : EF} (h : PEf X e f) : POf X (some e) (Zb4 f) := by
 rintro pins s σ H Q I ⟨ι, σd, Hd, o, Hd', sr, hr, e, q⟩
 obtain ⟨⟨d, H1⟩, e1, e⟩ := Zo e
 cases d <;> try cases e
 rename_i i
 exact Zv0 h pins s σ H Q I ⟨ι, σd, Hd, _, _, sr, hr, e1, fun v H' ι' l h r => ⟨i, by simpa using r, q H' ι' l h⟩⟩
noncomputable def slD (x : D) (lo hi : Option Int) (H : HD) : Option (D × HD) := match x with
 | .tup xs => some (.tup (Zl2 xs lo hi), H)
 | .fl xs => some (.ref H.length, H ++ [.lst (Zl2 xs lo hi)])
 | .ref n => match H[n]? with
  | some (.lst xs) => some (.ref H.length, H ++ [.lst (Zl2 xs lo hi)])
  | _ => none
 | _ => none
theorem Zfl {prog : Program} {w : World} {A : Around} {E : Value -> Shared -> Prop} {s : Shared} {t sl : Addr} {items : Array Value} {vl vu : Value} {lo hi : Option Int} {Q : Value -> Shared -> Prop} (ht : IsTup s.heap t items) (hs : s.heap.IsSliceOf sl vl vu .none) (pl : IsPart vl lo) (pu : IsPart vu hi)
  (hw : HT.sIx items.size 0 lo = 0 ∧ HT.sIx items.size items.size hi = items.size) (h : Q (.ref t) s) : wpAny (model prog w) A (getItem (.ref t) (.ref sl)) Q E s := by
 obtain ⟨os, hos, hcs, hds⟩ := id hs
 have hTs : s.TypeIs (.ref sl) "slice" := ⟨os, hos, hcs⟩
 obtain ⟨ot, hot, hct, nt, hdt⟩ := id ht
 unfold getItem
 try with_reducible refine wpAny_holding ?_
 first | refine wpAny_bind (wpAny_pure ?_) | skip
 refine wpAny_bind (wpAny_sequenceKey ht.typeIs (by decide) ?_)
 refine wpAny_bind (wpAny_callSpecial?_slot (name := Str.ofString "__getitem__") ht.typeIs PyProof.Rows.slot_tuple_getitem
  (wpAny_call_entry PyProof.Rows.slot_tuple_getitem ht.typeIs entry_tuple_getitem ?_ (args_tuple_getitem _ _)))
 show wpAny _ _ (Builtin.Tuple.tupleItemsOf (.ref t) >>= _) _ _ s
 refine wpAny_bind (tupleItemsOf_ ht ?_)
 refine wpAny_bind (wpAny_typeOf hTs ?_)
 rw [if_pos (by decide)]
 refine wpAny_bind (HT.sliceApplied_gen hs pl pu ?_)
 show wpAny _ _ (if (((HT.sIx items.size 0 lo : Nat) : Int) == 0 && (1 : Int) == 1 && (HT.sIx items.size items.size hi - HT.sIx items.size 0 lo) == items.size) = true then _ else _) _ _ s
 rw [if_pos (by rw [hw.1, hw.2]; simp)]
 show wpAny _ _ (Builtin.Tuple.tupleIsExact (Value.ref t) >>= _) _ _ s
 unfold Builtin.Tuple.tupleIsExact
 refine wpAny_bind (wpAny_bind (wpAny_typeOf ht.typeIs (wpAny_pure ?_)))
 rw [if_pos (by decide)]
 exact wpAny_bind (wpAny_rule (wpAny_pure ⟨_, rfl, wpAny_pure h⟩))
theorem Zok {xs : List D} {lo hi : Option Int} (h : HT.sIx xs.length 0 lo = 0 ∧ HT.sIx xs.length xs.length hi = xs.length) : Zl2 xs lo hi = xs := by
 unfold Zl2
 rw [h.1, h.2]; simp
noncomputable def rdSl (K : PySem.W.Frag) : V -> Option Int -> Option Int -> Hp -> VK -> Prop := fun x lo hi H Q => ∃ ι dx Hd d Hd', HRep K H ι Hd ∧ Rep K H ι dx x ∧ slD dx lo hi Hd = some (d, Hd') ∧ QE K H ι d Hd' Q
theorem slf : SlR X (rdSl X.K) := by
 rintro pins s σ H x v vl vu lo hi sl Q I rx hs pl pu ⟨ι, dx, Hd, d, Hd', hr, r, e, q⟩
 have lists : ∀ {a : Addr} {xs : List D} {vs : List V}, x = .ref a -> SqL X.K H a vs -> Paired (Rep X.K H ι) xs vs -> (D.ref Hd.length, Hd ++ [DO.lst (Zl2 xs lo hi)]) = (d, Hd') →
   ∃ T id, typeLookup (.type T) "__getitem__" = pure (some (.builtin id)) ∧ s.TypeIs v T ∧ wpAny (model X.prog X.w) X.A (getItem v (.ref sl)) (EP X pins σ Q) X.xe s := fun {a xs vs} ex h P e => by
  obtain ⟨_, _, _, hz⟩ := I.list h
  have hz2 : (Zl2 xs lo hi).length ≤ sizeLine := by
   rw [Prd.len (Zkj P lo hi)]
   exact Nat.le_trans (Zd7 vs lo hi) hz
  obtain ⟨k1, k2⟩ := Zh9 hr (Zkj P lo hi) (show mkL (Zl2 xs lo hi) Hd = some (d, Hd') by unfold mkL; rw [if_pos hz2, e]) q
  exact Zxb pins s σ H x v vl vu lo hi sl Q I rx hs pl pu ⟨a, vs, ex, h, k2⟩
 cases dx with
 | tup xs =>
  obtain ⟨a, vs, rfl, h, P⟩ := Za4.mp r
  simp only [slD, Option.some.injEq] at e
  obtain ⟨its, rv, ht, hz⟩ := I.tuple h
  have hlen : its.toArray.size = vs.length := by rw [List.size_toArray]; exact rv.length.symm
  by_cases hw : HT.sIx vs.length 0 lo = 0 ∧ HT.sIx vs.length vs.length hi = vs.length
  ·cases rx
   refine ⟨"tuple", _, PyProof.Rows.slot_tuple_getitem.lookup, ht.typeIs, Zfl ht hs pl pu (by rw [hlen]; exact hw) ?_⟩
   rw [Zok (by rw [Prd.len P]; exact hw)] at e
   obtain ⟨rfl, rfl⟩ := Prod.mk.inj e
   exact ⟨.ref a, H, I, rfl, q _ H ι Le.refl hr r⟩
  ·have hz2 : (Zl2 xs lo hi).length ≤ sizeLine := by
    rw [Prd.len (Zkj P lo hi)]
    exact Nat.le_trans (Zd7 vs lo hi) hz
   obtain ⟨k1, k2⟩ := Zf6 hr (Zkj P lo hi) (show mkT (Zl2 xs lo hi) Hd = some (d, Hd') by unfold mkT; rw [if_pos hz2, e]) q
   exact Zze pins s σ H _ v vl vu lo hi sl Q I rx hs pl pu ⟨a, vs, rfl, h, hw, k2⟩
 | fl xs =>
  obtain ⟨a, vs, rfl, h, P⟩ := Zfw.mp r
  simp only [slD, Option.some.injEq] at e
  exact lists rfl h.sq P e
 | ref n =>
  obtain ⟨a, rfl, ha⟩ := Zak.mp r
  simp only [slD] at e
  split at e
  ·rename_i xs e1
   obtain ⟨vs, h1, P⟩ := hr.obj n a _ ha e1
   exact lists rfl (SqL.of h1) P (Option.some.inj e)
  ·cases e
 | _ => simp [slD] at e
noncomputable def eSl (fe : EF) (fl fh : OF) : EF := fun σ H => (fe σ H).bind fun p => (fl σ p.2).bind fun l => (fh σ l.2).bind fun h => slD p.1 l.1 h.1 h.2
theorem Zby {e : Expr} {lo hi : Option Expr} {fe : EF} {fl fh : OF} {pos p2 : Pos} (he : PEf X e fe) (hl : POf X lo fl) (hu : POf X hi fh) : PEf X (.Subscript e (.Slice lo hi none p2) pos) (eSl fe fl fh) := by
 refine PEi (Zsr slf he hl hu) fun σ H Q zz => ?_
 obtain ⟨ι, σd, Hd, d, Hd', s, hr, e, q⟩ := zz
 obtain ⟨⟨x, H1⟩, e1, e⟩ := Zo e
 obtain ⟨⟨y, H2⟩, e2, e⟩ := Zo e
 obtain ⟨⟨z, H3⟩, e3, e⟩ := Zo e
 exact ⟨ι, σd, Hd, x, H1, s, hr, e1, fun v1 H1' ι1 l1 h1 r1 => ⟨ι1, σd, H1, y, H2, s.mono l1, h1, e2, fun H2' ι2 l2 h2 => ⟨ι2, σd, H2, z, H3, s.mono (l1.trans l2), h2, e3, fun H3' ι3 l3 h3 =>
  ⟨ι3, x, H3, d, Hd', h3, r1.mono (l2.trans l3), e, fun v H' ι' l h r => q v H' ι' (((l1.trans l2).trans l3).trans l) h r⟩⟩⟩⟩
noncomputable def Zdk : FF := fun ds H => match ds with
 | [.str x] => if x.length ≤ sizeLine then some (.int x.length, H) else none
 | [d] => (Zkw d H).map fun xs => (.int xs.length, H)
 | _ => none
theorem Zj5 {K : PySem.W.Frag} {H : Hp} {ι : List Addr} {d : D} {vs : List V} (P : Paired (Rep K H ι) [d] vs) : ∃ v, vs = [v] ∧ Rep K H ι d v := by
 cases P with
 | cons r t => cases t; exact ⟨_, rfl, r⟩
theorem prd2 {K : PySem.W.Frag} {H : Hp} {ι : List Addr} {d d' : D} {vs : List V} (P : Paired (Rep K H ι) [d, d'] vs) : ∃ v v', vs = [v, v'] ∧ Rep K H ι d v ∧ Rep K H ι d' v' := by
 cases P with
 | cons r t => obtain ⟨v, rfl, r'⟩ := Zj5 t; exact ⟨_, _, rfl, r, r'⟩
theorem Zqd : Zg2 X (.builtin "len") Zdk := by
 rintro pins s σ H xs us Q I rv ⟨ι, ds, Hd, d, Hd', hr, P, e, q⟩
 unfold Zdk at e
 split at e
 ·obtain ⟨v, rfl, r⟩ := Zj5 P
  simp at r
  subst r
  split at e
  ·rename_i hl
   cases e
   exact Zle pins s σ H _ us Q I rv ⟨_, rfl, hl, q _ H ι Le.refl hr (by simp)⟩
  ·cases e
 ·obtain ⟨v, rfl, r⟩ := Zj5 P
  obtain ⟨ys, e1, e⟩ := Zm e
  obtain ⟨rfl, rfl⟩ := Prod.mk.inj e
  obtain ⟨p, vs, rfl, h, P2⟩ := Znb hr r e1
  exact Zks pins s σ H _ us Q I rv ⟨p, vs, rfl, h, q _ H ι Le.refl hr (by simp [Prd.len P2])⟩
 ·cases e
noncomputable def Zu3 : FF := fun ds H => match ds with
 | [.int i] => some (.int (if i < 0 then -i else i), H)
 | _ => none
theorem Zrd : Zg2 X (.builtin "abs") Zu3 := by
 rintro pins s σ H xs us Q I rv ⟨ι, ds, Hd, d, Hd', hr, P, e, q⟩
 unfold Zu3 at e
 split at e
 ·obtain ⟨v, rfl, r⟩ := Zj5 P
  simp at r
  subst r
  cases e
  exact Zsq pins s σ H _ us Q I rv ⟨_, rfl, q _ H ι Le.refl hr (by simp)⟩
 ·cases e
noncomputable def Yam : FF := fun ds H => match ds with
 | [.int i] => some (.int i, H)
 | [.bl b] => some (.int (if b then 1 else 0), H)
 | _ => none
theorem Zlx : Zg2 X (.type "int") Yam := by
 rintro pins s σ H xs us Q I rv ⟨ι, ds, Hd, d, Hd', hr, P, e, q⟩
 unfold Yam at e
 split at e
 ·obtain ⟨v, rfl, r⟩ := Zj5 P
  simp at r
  subst r
  cases e
  exact Zko pins s σ H _ us Q I rv (.inl ⟨_, rfl, q _ H ι Le.refl hr (by simp)⟩)
 ·obtain ⟨v, rfl, r⟩ := Zj5 P
  simp at r
  subst r
  cases e
  exact Zko pins s σ H _ us Q I rv (.inr ⟨_, rfl, q _ H ι Le.refl hr (by simp)⟩)
 ·cases e
noncomputable def Zkf : FF := fun ds H => match ds with
 | [d] => (Zkw d H).map fun xs => (.ref H.length, H ++ [.lst xs])
 | _ => none
theorem Zm2 {pins : List (Addr × Obj)} {s : Shared} {σ : L2.St} {H : Hp} {p : Addr} {vs : List V} (I : Inv X pins σ H s) (h : SqL X.K H p vs ∨ SqT X.K H p vs) : vs.length ≤ sizeLine := by
 rcases h with h | h
 ·obtain ⟨_, _, _, z⟩ := I.list h; exact z
 ·obtain ⟨_, _, _, z⟩ := I.tuple h; exact z
theorem Zov : Zg2 X (.type "list") Zkf := by
 rintro pins s σ H xs us Q I rv ⟨ι, ds, Hd, d, Hd', hr, P, e, q⟩
 unfold Zkf at e
 split at e
 ·obtain ⟨v, rfl, r⟩ := Zj5 P
  obtain ⟨ys, e1, e⟩ := Zm e
  obtain ⟨p, vs, rfl, h, P2⟩ := Znb hr r e1
  obtain ⟨k1, k2⟩ := Zh9 hr P2 (show mkL ys Hd = some (d, Hd') by unfold mkL; rw [if_pos (by rw [Prd.len P2]; exact Zm2 I h), e]) q
  exact Zky pins s σ H _ us Q I rv ⟨p, vs, rfl, h, k2⟩
 ·cases e
noncomputable def Zfv : FF := fun ds H => match ds with
 | [d] => (Zkw d H).map fun xs => (.tup xs, H)
 | _ => none
theorem Zmg : Zg2 X (.type "tuple") Zfv := by
 rintro pins s σ H xs us Q I rv ⟨ι, ds, Hd, d, Hd', hr, P, e, q⟩
 unfold Zfv at e
 split at e
 ·rename_i d0
  obtain ⟨v, rfl, r⟩ := Zj5 P
  obtain ⟨ys, e1, e⟩ := Zm e
  obtain ⟨p, vs, rfl, h, P2⟩ := Znb hr r e1
  obtain ⟨k1, k2⟩ := Zf6 hr P2 (show mkT ys Hd = some (d, Hd') by unfold mkT; rw [if_pos (by rw [Prd.len P2]; exact Zm2 I h), e]) q
  refine Zkd pins s σ H _ us Q I rv ⟨p, vs, rfl, ?_⟩
  rcases h with h | h
  ·exact .inl ⟨h, k2⟩
  ·obtain ⟨rfl, rfl⟩ := Prod.mk.inj e
   exact .inr ⟨h, q _ H ι Le.refl hr (Za4.mpr ⟨p, vs, rfl, h, P2⟩)⟩
 ·cases e
noncomputable def Zce (x : D) (ds : List D) (H : HD) : Option (D × HD) := match x, ds with
 | .ref n, [d] => match H[n]? with
  | some (.lst xs) => if xs.length < sizeLine then some (.non, H.set n (.lst (xs ++ [d]))) else none
  | _ => none
 | _, _ => none
theorem Zdh : MtF X "list.append" Zce := by
 rintro pins s σ H x xs v us Q I rx rv ⟨ι, dx, ds, Hd, d, Hd', hr, r1, P, e, q⟩
 unfold Zce at e
 split at e
 ·rename_i n d1
  obtain ⟨a, rfl, ha⟩ := Zak.mp r1
  obtain ⟨z, rfl, rz⟩ := Zj5 P
  split at e
  ·rename_i ys e1
   split at e
   ·rename_i hl
    cases e
    obtain ⟨vs, h1, P1⟩ := hr.obj n a _ ha e1
    refine Zk1 pins s σ H _ _ v us Q I rx rv ⟨a, vs, z, rfl, rfl, h1, by rw [← Prd.len P1]; exact hl, ?_⟩
    have L : Le X.K H ι (upd H a (.lst (vs ++ [z]))) ι := Le.upd (List.mem_of_getElem? ha) h1 trivial _
    exact q _ _ ι L (hr.upd ha h1 trivial ⟨_, Zaq, Prd.append (Prd.mono L P1) (.cons (rz.mono L) .nil)⟩) (by simp)
   ·cases e
  ·cases e
 ·cases e
noncomputable def Zzk (x : D) (ds : List D) (H : HD) : Option (D × HD) := match x, ds with
 | .ref n, [.int i] => match H[n]? with
  | some (.lst xs) => if -(2 ^ 63) ≤ i ∧ i < 2 ^ 63 then (seqIndex? i xs.length).bind fun k => (xs[k]?).map fun d => (d, H.set n (.lst (xs.eraseIdx k))) else none
  | _ => none
 | _, _ => none
theorem Zwh : MtF X "list.pop" Zzk := by
 rintro pins s σ H x xs v us Q I rx rv ⟨ι, dx, ds, Hd, d, Hd', hr, r1, P, e, q⟩
 unfold Zzk at e
 split at e
 ·rename_i n i
  obtain ⟨a, rfl, ha⟩ := Zak.mp r1
  obtain ⟨z, rfl, rz⟩ := Zj5 P
  simp at rz
  subst rz
  split at e
  ·rename_i ys e1
   split at e
   ·rename_i hl
    obtain ⟨k, e2, e⟩ := Zo e
    obtain ⟨d1, e3, e⟩ := Zm e
    obtain ⟨rfl, rfl⟩ := Prod.mk.inj e
    obtain ⟨vs, h1, P1⟩ := hr.obj n a _ ha e1
    obtain ⟨u, hu, ru⟩ := Prd.get P1 e3
    refine Zth pins s σ H _ _ v us Q I rx rv ⟨a, vs, i, k, u, rfl, rfl, h1, hl.1, hl.2, by rw [← Prd.len P1]; exact e2, hu, ?_⟩
    have L : Le X.K H ι (upd H a (.lst (vs.eraseIdx k))) ι := Le.upd (List.mem_of_getElem? ha) h1 trivial _
    exact q _ _ ι L (hr.upd ha h1 trivial ⟨_, Zaq, Prd.eraseIdx k (Prd.mono L P1)⟩) (ru.mono L)
   ·cases e
  ·cases e
 ·cases e
end
mutual
noncomputable def toP (H : HD) : Nat -> D -> Option PyData
 | _, .non => some .none
 | _, .bl b => some (.bool b)
 | _, .int i => some (.int i)
 | _, .str x => some (.str x)
 | _, .ty _ => none
 | n, .tup xs => (Zgo H n xs).map .tuple
 | n, .fl xs => (Zgo H n xs).map .list
 | 0, .ref _ => none
 | n + 1, .ref k => match H[k]? with
  | some (.lst xs) => (Zgo H n xs).map .list
  | _ => none
termination_by n d => (n, sizeOf d)
noncomputable def Zgo (H : HD) : Nat -> List D -> Option (List PyData)
 | _, [] => some []
 | n, d :: ds => (toP H n d).bind fun x => (Zgo H n ds).map fun r => x :: r
termination_by n ds => (n, sizeOf ds)
end
section
variable {X : Cx} {pins : List (Addr × Obj)} {σ : L2.St} {H : Hp} {s : Shared} {ι : List Addr} {Hd : HD}
mutual
theorem Zbr (I : Inv X pins σ H s) (hr : HRep X.K H ι Hd) : ∀ (n : Nat) (d : D) {x : PyData} {v : V} {u : Value}, toP Hd n d = some x -> Rep X.K H ι d v -> Zcn v u -> ∃ as, Reads s.heap u x as
 | n, .non, x, v, u, e, r, q => by
  rw [toP] at e; cases e; simp at r; subst r; cases q; exact ⟨_, .none⟩
 | n, .bl b, x, v, u, e, r, q => by
  rw [toP] at e; cases e; simp at r; subst r; cases q; exact ⟨_, .bool b⟩
 | n, .int i, x, v, u, e, r, q => by
  rw [toP] at e; cases e; simp at r; subst r; obtain ⟨t, rfl⟩ := q; exact ⟨_, .int i t⟩
 | n, .str z, x, v, u, e, r, q => by
  rw [toP] at e; cases e; simp at r; subst r; obtain ⟨t, rfl⟩ := q; exact ⟨_, .str z t⟩
 | n, .ty _, x, v, u, e, r, q => by rw [toP] at e; cases e
 | n, .tup xs, x, v, u, e, r, q => by
  rw [toP] at e
  obtain ⟨ps, e1, rfl⟩ := Zm e
  obtain ⟨a, vs, rfl, h, P⟩ := Za4.mp r
  cases q
  obtain ⟨its, rv, ⟨o, ho, hc, m, hd⟩, hz⟩ := I.tuple h
  obtain ⟨as, ra⟩ := Zd2 I hr n xs e1 P rv
  exact ⟨_, .tuple ho hc hd (by simpa using ra)⟩
 | n, .fl xs, x, v, u, e, r, q => by
  rw [toP] at e
  obtain ⟨ps, e1, rfl⟩ := Zm e
  obtain ⟨a, vs, rfl, h, P⟩ := Zfw.mp r
  cases q
  obtain ⟨its, rv, pl, hz⟩ := I.list h.sq
  obtain ⟨o, ho, hc, m, hd⟩ := pl.isList
  obtain ⟨as, ra⟩ := Zd2 I hr n xs e1 P rv
  exact ⟨_, .list ho hc hd (by simpa using ra)⟩
 | 0, .ref k, x, v, u, e, r, q => by rw [toP] at e; cases e
 | n + 1, .ref k, x, v, u, e, r, q => by
  rw [toP] at e
  split at e
  ·rename_i xs eo
   obtain ⟨ps, e1, rfl⟩ := Zm e
   obtain ⟨a, rfl, ha⟩ := Zak.mp r
   cases q
   obtain ⟨vs, h1, P⟩ := hr.obj k a _ ha eo
   obtain ⟨its, rv, pl, hz⟩ := I.list (SqL.of h1)
   obtain ⟨o, ho, hc, m, hd⟩ := pl.isList
   obtain ⟨as, ra⟩ := Zd2 I hr n xs e1 P rv
   exact ⟨_, .list ho hc hd (by simpa using ra)⟩
  ·cases e
termination_by n d => (n, sizeOf d)
theorem Zd2 (I : Inv X pins σ H s) (hr : HRep X.K H ι Hd) : ∀ (n : Nat) (ds : List D) {xs : List PyData} {vs : List V} {us : List Value}, Zgo Hd n ds = some xs -> Paired (Rep X.K H ι) ds vs -> Za8 vs us -> ∃ as, ReadsAll s.heap us xs as
 | n, [], xs, vs, us, e, P, q => by
  rw [Zgo] at e; cases e; cases P; cases q; exact ⟨_, .nil⟩
 | n, d :: ds, xs, vs, us, e, P, q => by
  rw [Zgo] at e
  obtain ⟨x, e1, e⟩ := Zo e
  obtain ⟨r, e2, rfl⟩ := Zm e
  cases P with
  | cons p P =>
   cases q with
   | cons q Q =>
    obtain ⟨as, ra⟩ := Zbr I hr n d e1 p q
    obtain ⟨bs, rb⟩ := Zd2 I hr n ds e2 P Q
    exact ⟨_, .cons ra rb⟩
termination_by n ds => (n, sizeOf ds)
end
noncomputable def okP (x : PyData) : Bool := x.canLay0 && decide (x.depth ≤ 30)
noncomputable def dat (d : D) (H : HD) : Option PyData := (toP H 30 d).bind fun x => if okP x = true then some x else none
theorem Zcd {d : D} {x : PyData} (e : dat d Hd = some x) : toP Hd 30 d = some x ∧ x.canLay0 = true ∧ x.depth ≤ 30 := by
 obtain ⟨y, e1, e⟩ := Zo e
 split at e
 ·rename_i h
  cases e
  rw [okP, Bool.and_eq_true, decide_eq_true_eq] at h
  exact ⟨e1, h⟩
 ·cases e
noncomputable def Zof : D -> D -> Option (Str × Str)
 | .str a, .str b => some (a, b)
 | _, _ => none
theorem Zlp {x y : D} {a b : Str} (h : Zof x y = some (a, b)) : x = .str a ∧ y = .str b := by
 unfold Zof at h
 split at h
 ·cases h; exact ⟨rfl, rfl⟩
 ·cases h
noncomputable def eqD : F2 := fun x y H => match Zof x y with
 | some (a, b) => some (.bl (a == b), H)
 | none => (dat x H).bind fun p => (dat y H).map fun q => (.bl (PyData.eqv p q), H)
noncomputable def neD : F2 := fun x y H => match Zof x y with
 | some (a, b) => some (.bl (a != b), H)
 | none => (dat x H).bind fun p => (dat y H).map fun q => (.bl (!PyData.eqv p q), H)
theorem Zcz (hu : X.A.units + 64 < cLine) : OpF X (compareOp .Eq) eqD := by
 rintro pins s σ H x y v u Q I rx ry ⟨ι, dx, dy, Hd, d, Hd', hr, r1, r2, e, q⟩
 unfold eqD at e
 split at e
 ·rename_i a b es
  obtain ⟨rfl, rfl⟩ := Zlp es
  obtain ⟨rfl, rfl⟩ := Prod.mk.inj (Option.some.inj e)
  simp at r1 r2
  subst r1 r2
  obtain ⟨t1, rfl⟩ := rx
  obtain ⟨t2, rfl⟩ := ry
  exact PyProof.Rows.eq_str ⟨.bl _, H, I, rfl, q _ H ι Le.refl hr (by simp)⟩
 ·obtain ⟨p, e1, e⟩ := Zo e
  obtain ⟨p2, e2, e⟩ := Zm e
  obtain ⟨rfl, rfl⟩ := Prod.mk.inj e
  obtain ⟨t1, c1, d1⟩ := Zcd e1
  obtain ⟨t2, c2, d2⟩ := Zcd e2
  obtain ⟨as, ra⟩ := Zbr I hr _ _ t1 r1 rx
  obtain ⟨bs, rb⟩ := Zbr I hr _ _ t2 r2 ry
  exact SeqAt.compareEq_reads ra rb c1 c2 (by omega) ⟨.bl _, H, I, rfl, q _ H ι Le.refl hr (by simp)⟩
theorem Zn6 (hu : X.A.units + 64 < cLine) : OpF X (compareOp .NotEq) neD := by
 rintro pins s σ H x y v u Q I rx ry ⟨ι, dx, dy, Hd, d, Hd', hr, r1, r2, e, q⟩
 unfold neD at e
 split at e
 ·rename_i a b es
  obtain ⟨rfl, rfl⟩ := Zlp es
  obtain ⟨rfl, rfl⟩ := Prod.mk.inj (Option.some.inj e)
  simp at r1 r2
  subst r1 r2
  obtain ⟨t1, rfl⟩ := rx
  obtain ⟨t2, rfl⟩ := ry
  exact PyProof.Rows.ne_str ⟨.bl _, H, I, rfl, q _ H ι Le.refl hr (by simp)⟩
 ·obtain ⟨p, e1, e⟩ := Zo e
  obtain ⟨p2, e2, e⟩ := Zm e
  obtain ⟨rfl, rfl⟩ := Prod.mk.inj e
  obtain ⟨t1, c1, d1⟩ := Zcd e1
  obtain ⟨t2, c2, d2⟩ := Zcd e2
  obtain ⟨as, ra⟩ := Zbr I hr _ _ t1 r1 rx
  obtain ⟨bs, rb⟩ := Zbr I hr _ _ t2 r2 ry
  exact SeqAt.compareNe_reads ra rb c1 c2 (by omega) ⟨.bl _, H, I, rfl, q _ H ι Le.refl hr (by simp)⟩
noncomputable def Ze3 : PyData -> Option (List PyData)
 | .list xs => some xs
 | .tuple xs => some xs
 | _ => none
noncomputable def inD : F2 := fun x y H => (dat x H).bind fun p => (dat y H).bind fun q => (Ze3 q).map fun xs => (.bl (xs.any fun z => PyData.eqv z p), H)
noncomputable def niD : F2 := fun x y H => (dat x H).bind fun p => (dat y H).bind fun q => (Ze3 q).map fun xs => (.bl (!xs.any fun z => PyData.eqv z p), H)
theorem Zyh (hu : X.A.units + 64 < cLine) : OpF X (compareOp .In) inD := by
 rintro pins s σ H x y v u Q I rx ry ⟨ι, dx, dy, Hd, d, Hd', hr, r1, r2, e, q⟩
 obtain ⟨p, e1, e⟩ := Zo e
 obtain ⟨p2, e2, e⟩ := Zo e
 obtain ⟨xs, e3, e⟩ := Zm e
 obtain ⟨rfl, rfl⟩ := Prod.mk.inj e
 obtain ⟨t1, c1, d1⟩ := Zcd e1
 obtain ⟨t2, c2, d2⟩ := Zcd e2
 obtain ⟨as, ra⟩ := Zbr I hr _ _ t1 r1 rx
 obtain ⟨bs, rb⟩ := Zbr I hr _ _ t2 r2 ry
 have fin : EP X pins σ Q (.bool (xs.any fun z => PyData.eqv z p)) s := ⟨.bl _, H, I, rfl, q _ H ι Le.refl hr (by simp)⟩
 cases p2 with
 | list ys =>
  cases e3
  simp only [PyData.canLay0] at c2
  simp only [PyData.depth] at d2
  exact SeqAt.in_list_reads rb ra c2 c1 (by omega) fin
 | tuple ys =>
  cases e3
  simp only [PyData.canLay0] at c2
  simp only [PyData.depth] at d2
  exact SeqAt.in_tuple_reads rb ra c2 c1 (by omega) fin
 | _ => simp [Ze3] at e3
theorem Yau (hu : X.A.units + 64 < cLine) : OpF X (compareOp .NotIn) niD := by
 rintro pins s σ H x y v u Q I rx ry ⟨ι, dx, dy, Hd, d, Hd', hr, r1, r2, e, q⟩
 obtain ⟨p, e1, e⟩ := Zo e
 obtain ⟨p2, e2, e⟩ := Zo e
 obtain ⟨xs, e3, e⟩ := Zm e
 obtain ⟨rfl, rfl⟩ := Prod.mk.inj e
 obtain ⟨t1, c1, d1⟩ := Zcd e1
 obtain ⟨t2, c2, d2⟩ := Zcd e2
 obtain ⟨as, ra⟩ := Zbr I hr _ _ t1 r1 rx
 obtain ⟨bs, rb⟩ := Zbr I hr _ _ t2 r2 ry
 have fin : EP X pins σ Q (.bool (!xs.any fun z => PyData.eqv z p)) s := ⟨.bl _, H, I, rfl, q _ H ι Le.refl hr (by simp)⟩
 cases p2 with
 | list ys =>
  cases e3
  simp only [PyData.canLay0] at c2
  simp only [PyData.depth] at d2
  exact SeqAt.notIn_list_reads rb ra c2 c1 (by omega) fin
 | tuple ys =>
  cases e3
  simp only [PyData.canLay0] at c2
  simp only [PyData.depth] at d2
  exact SeqAt.notIn_tuple_reads rb ra c2 c1 (by omega) fin
 | _ => simp [Ze3] at e3
noncomputable def isB (x y : D) : Option Bool := match y, x with
 | .non, .non => some true
 | .non, _ => some false
 | .bl b, .bl c => some (c == b)
 | .bl _, _ => some false
 | _, _ => none
noncomputable def isD : F2 := fun x y H => (isB x y).map fun b => (.bl b, H)
noncomputable def Zx8 : F2 := fun x y H => (isB x y).map fun b => (.bl (!b), H)
theorem Zl7 {M : Model} {A : Around} {E : Value -> Shared -> Prop} {s : Shared} {Q : Value -> Shared -> Prop} {v : Value} {b : Bool} (hv : ∀ i, v ≠ .builtin i) (h : Q (.bool (v == .bool b)) s) : wpAny M A (compareOp .Is v (.bool b)) Q E s := by
 cases v <;> first | exact wpAny_pure h | exact absurd rfl (hv _)
theorem Zik {M : Model} {A : Around} {E : Value -> Shared -> Prop} {s : Shared} {Q : Value -> Shared -> Prop} {v : Value} {b : Bool} (hv : ∀ i, v ≠ .builtin i) (h : Q (.bool (!(v == .bool b))) s) : wpAny M A (compareOp .IsNot v (.bool b)) Q E s := by
 cases v <;> first | exact wpAny_pure h | exact absurd rfl (hv _)
theorem Zr1 {x : V} {v : Value} (r : Zcn x v) : ∀ i, v ≠ .builtin i := by
 intro i
 cases x with
 | non => cases r; intro z; cases z
 | bl _ => cases r; intro z; cases z
 | int _ => obtain ⟨t, rfl⟩ := r; intro z; cases z
 | str _ => obtain ⟨t, rfl⟩ := r; intro z; cases z
 | byt _ => obtain ⟨t, rfl⟩ := r; intro z; cases z
 | flt _ => obtain ⟨t, rfl⟩ := r; intro z; cases z
 | ref _ => cases r; intro z; cases z
 | ty _ => cases r; intro z; cases z
theorem Zuz {dx dy : D} {x y : V} {v u : Value} {b : Bool} (r1 : Rep X.K H ι dx x) (r2 : Rep X.K H ι dy y) (rx : Zcn x v) (ry : Zcn y u) (e : isB dx dy = some b) :
  (u = .none ∧ b = (v == .none)) ∨ ∃ c, u = .bool c ∧ b = (v == .bool c) := by
 cases dy with
 | non =>
  simp at r2; subst r2; cases ry
  refine .inl ⟨rfl, ?_⟩
  cases dx with
  | non => simp at r1; subst r1; cases rx; cases e; rfl
  | bl _ => simp at r1; subst r1; cases rx; cases e; rfl
  | int _ => simp at r1; subst r1; obtain ⟨t, rfl⟩ := rx; cases e; rfl
  | str _ => simp at r1; subst r1; obtain ⟨t, rfl⟩ := rx; cases e; rfl
  | ty _ => simp at r1; subst r1; cases rx; cases e; rfl
  | tup _ => obtain ⟨a, _, rfl, _⟩ := Za4.mp r1; cases rx; cases e; rfl
  | fl _ => obtain ⟨a, _, rfl, _⟩ := Zfw.mp r1; cases rx; cases e; rfl
  | ref _ => obtain ⟨a, rfl, _⟩ := Zak.mp r1; cases rx; cases e; rfl
 | bl c =>
  simp at r2; subst r2; cases ry
  refine .inr ⟨c, rfl, ?_⟩
  cases dx with
  | non => simp at r1; subst r1; cases rx; cases e; rfl
  | bl z => simp at r1; subst r1; cases rx; cases e; cases z <;> cases c <;> rfl
  | int _ => simp at r1; subst r1; obtain ⟨t, rfl⟩ := rx; cases e; rfl
  | str _ => simp at r1; subst r1; obtain ⟨t, rfl⟩ := rx; cases e; rfl
  | ty _ => simp at r1; subst r1; cases rx; cases e; rfl
  | tup _ => obtain ⟨a, _, rfl, _⟩ := Za4.mp r1; cases rx; cases e; rfl
  | fl _ => obtain ⟨a, _, rfl, _⟩ := Zfw.mp r1; cases rx; cases e; rfl
  | ref _ => obtain ⟨a, rfl, _⟩ := Zak.mp r1; cases rx; cases e; rfl
 | _ => simp [isB] at e
theorem Zu7 : OpF X (compareOp .Is) isD := by
 rintro pins s σ H x y v u Q I rx ry ⟨ι, dx, dy, Hd, d, Hd', hr, r1, r2, e, q⟩
 obtain ⟨b, e1, e⟩ := Zm e
 obtain ⟨rfl, rfl⟩ := Prod.mk.inj e
 have fin : EP X pins σ Q (.bool b) s := ⟨.bl _, H, I, rfl, q _ H ι Le.refl hr (by simp)⟩
 rcases Zuz r1 r2 rx ry e1 with ⟨rfl, rfl⟩ | ⟨c, rfl, rfl⟩
 ·exact is_none_gen fin
 ·exact Zl7 (Zr1 rx) fin
theorem Zpn : OpF X (compareOp .IsNot) Zx8 := by
 rintro pins s σ H x y v u Q I rx ry ⟨ι, dx, dy, Hd, d, Hd', hr, r1, r2, e, q⟩
 obtain ⟨b, e1, e⟩ := Zm e
 obtain ⟨rfl, rfl⟩ := Prod.mk.inj e
 have fin : EP X pins σ Q (.bool (!b)) s := ⟨.bl _, H, I, rfl, q _ H ι Le.refl hr (by simp)⟩
 rcases Zuz r1 r2 rx ry e1 with ⟨rfl, rfl⟩ | ⟨c, rfl, rfl⟩
 ·exact isnot_none_gen fin
 ·exact Zik (Zr1 rx) fin
noncomputable def tyD : D -> HD -> Option String
 | .non, _ => some "NoneType"
 | .bl _, _ => some "bool"
 | .int _, _ => some "int"
 | .str _, _ => some "str"
 | .tup _, _ => some "tuple"
 | .fl _, _ => some "list"
 | .ref n, H => match H[n]? with
  | some (.lst _) => some "list"
  | _ => none
 | _, _ => none
noncomputable def Zpc (c : String) : Bool := c == "bool" || c == "int" || c == "str" || c == "tuple" || c == "list"
noncomputable def Zpb : FF := fun ds H => match ds with
 | [x, .ty c] => if Zpc c = true then (tyD x H).map fun t => (.bl (t == c || (t == "bool" && c == "int")), H) else none
 | _ => none
noncomputable def tys : List String := ["NoneType", "bool", "int", "str", "tuple", "list"]
theorem Zw7 {d : D} {t : String} (e : tyD d Hd = some t) : t ∈ tys := by
 cases d with
 | ref n =>
  simp only [tyD] at e
  split at e
  ·cases e; decide
  ·cases e
 | ty n => simp [tyD] at e
 | _ => simp only [tyD] at e; cases e; decide
theorem Zyj (K : PySem.W.Frag) {t c : String} (ht : t ∈ tys) (hc : Zpc c = true) : PySem.W.kitOne K (.type t) (.type c) = some (t == c || (t == "bool" && c == "int")) := by
 have hc' : c = "bool" ∨ c = "int" ∨ c = "str" ∨ c = "tuple" ∨ c = "list" := by
  simpa [Zpc, or_assoc] using hc
 simp only [tys, List.mem_cons, List.not_mem_nil, or_false] at ht
 rcases ht with rfl | rfl | rfl | rfl | rfl | rfl <;> rcases hc' with rfl | rfl | rfl | rfl | rfl <;> first | rfl | (with_unfolding_all rfl) | kernel_rfl
theorem Zp8 : Zg2 X (.builtin "isinstance") Zpb := by
 rintro pins s σ H xs us Q I rv ⟨ι, ds, Hd, d, Hd', hr, P, e, q⟩
 unfold Zpb at e
 split at e
 ·rename_i x c
  split at e
  ·rename_i hc
   obtain ⟨t, e1, e⟩ := Zm e
   obtain ⟨rfl, rfl⟩ := Prod.mk.inj e
   obtain ⟨v, v', rfl, r, r'⟩ := prd2 P
   obtain ⟨u, u', rfl, ru, ru'⟩ := Ztb rv
   simp at r'
   subst r'
   cases ru'
   have k := Zyj X.K (Zw7 e1) hc
   have fin : ∀ tk, EP X pins σ Q (.bool (t == c || (t == "bool" && c == "int"))) { s with toks := tk } := fun tk => ⟨.bl _, H, I.tok tk, rfl, q _ H ι Le.refl hr (by simp)⟩
   cases x with
   | non => simp at r; subst r; cases ru; cases e1; exact PySem.W.kia_one PySem.W.kitx_none I.kIn True.intro k (fun z => nomatch z) fin
   | bl y => simp at r; subst r; cases ru; cases e1; exact PySem.W.kia_one PySem.W.kitx_bool I.kIn True.intro k (fun z => nomatch z) fin
   | int y => simp at r; subst r; obtain ⟨t, rfl⟩ := ru; cases e1; exact PySem.W.kia_one PySem.W.kitx_int I.kIn True.intro k (fun z => nomatch z) fin
   | str y => simp at r; subst r; obtain ⟨t, rfl⟩ := ru; cases e1; exact PySem.W.kia_one PySem.W.kitx_str I.kIn True.intro k (fun z => nomatch z) fin
   | ty _ => simp [tyD] at e1
   | tup ys =>
    obtain ⟨a, vs, rfl, h, _⟩ := Za4.mp r
    cases ru; cases e1
    obtain ⟨its, _, ⟨o, ho, hcl, _⟩, _⟩ := I.tuple h
    exact PySem.W.kia_one PySem.W.kitx_tuple I.kIn ⟨o, ho, hcl⟩ k (fun z => nomatch z) fin
   | fl ys =>
    obtain ⟨a, vs, rfl, h, _⟩ := Zfw.mp r
    cases ru; cases e1
    obtain ⟨its, _, pl, _⟩ := I.list h.sq
    obtain ⟨o, ho, hcl, _⟩ := pl.isList
    exact PySem.W.kia_one PySem.W.kitx_list I.kIn ⟨o, ho, hcl⟩ k (fun z => nomatch z) fin
   | ref n =>
    obtain ⟨a, rfl, ha⟩ := Zak.mp r
    cases ru
    simp only [tyD] at e1
    split at e1
    ·rename_i ys eo
     cases e1
     obtain ⟨vs, h1, _⟩ := hr.obj n a _ ha eo
     obtain ⟨its, _, pl, _⟩ := I.list (SqL.of h1)
     obtain ⟨o, ho, hcl, _⟩ := pl.isList
     exact PySem.W.kia_one PySem.W.kitx_list I.kIn ⟨o, ho, hcl⟩ k (fun z => nomatch z) fin
    ·cases e1
  ·cases e
 ·cases e
end
section
variable {X : Cx} {tg : Expr}
noncomputable def Zie : D -> HD -> Option (List D × Zjt)
 | .tup xs, _ => some (xs, [])
 | .fl xs, _ => some (xs, [])
 | .ref n, H => match H[n]? with
  | some (.lst xs) => some (xs, [(n, .lst xs)])
  | _ => none
 | _, _ => none
noncomputable def Zgs (i : Int) : Prop := -(2 ^ 62) ≤ i ∧ i < 2 ^ 62
instance (i : Int) : Decidable (Zgs i) := by unfold Zgs; exact inferInstance
noncomputable def Zau (lo : Int) (n : Nat) : List D := (List.range n).map fun k : Nat => .int (lo + (k : Int))
theorem Zi4 {lo : Int} {n i : Nat} {d : D} (h : (Zau lo n)[i]? = some d) : i < n ∧ d = .int (lo + i) := by
 unfold Zau at h
 rw [List.getElem?_map] at h
 obtain ⟨k, h1, rfl⟩ := Zm h
 rw [List.getElem?_eq_some_iff] at h1
 obtain ⟨hl, h1⟩ := h1
 simp at h1 hl
 subst h1
 exact ⟨hl, rfl⟩
theorem Zqk {K : PySem.W.Frag} {H0 : Hp} {ι0 : List Addr} (lo : Int) (n : Nat) : ItRep K (Itr lo n) (Zau lo n) [] H0 ι0 := by
 refine ⟨fun i H2 ι2 Hd2 l2 h2 _ hi => (show i < n by simpa [Zau] using hi), fun i H2 ι2 Hd2 d x H3 l2 h2 _ hd y => ?_, fun i H2 ι2 Hd2 l2 h2 _ hi => (show n ≤ i by simpa [Zau] using hi)⟩
 obtain ⟨rfl, rfl⟩ := y
 obtain ⟨_, rfl⟩ := Zi4 hd
 exact ⟨ι2, Le.refl, h2, by simp⟩
noncomputable def iR1 (f : AF) : ItF := fun σ H => (f σ H).bind fun p => match p.1 with
 | [.int j] => if Zgs j then some ((Zau 0 j.toNat, []), p.2) else none
 | _ => none
theorem Zo3 {a : Expr} {f : AF} {p pos : Pos} (hg : Gl X "range") (hm : X.mg "range" = none) (ha : PAf X [a] f) (hs : starEach [a] X.env = [(false, eval a X.env)] := by rfl) : PIf X tg (.Call (.Name "range" p) [a] [] pos) (iR1 f) := by
 refine PIi (Zr6 hg hm ha hs) fun σ H R zz => ?_
 obtain ⟨ι, σd, Hd, xs, own, Hd', s, hr, e, q⟩ := zz
 obtain ⟨⟨ds, H1⟩, e1, e⟩ := Zo e
 dsimp only at e
 split at e
 ·rename_i j
  split at e
  ·rename_i hj
   cases e
   refine ⟨ι, σd, Hd, _, _, s, hr, e1, fun vs H' ι' l h P => ?_⟩
   obtain ⟨v, rfl, r⟩ := Zj5 P
   simp at r
   subst r
   exact ⟨j, rfl, hj.1, hj.2, q _ H' ι' l h (Zqk 0 _)⟩
  ·cases e
 ·cases e
end
open Builtin.SmallTypes (nextOf)
section
variable {prog : Program} {w : World} {A : Around} {E : Value -> Shared -> Prop} {s : Shared}
theorem Ztg {j t : Addr} {i : Nat} {its : Array Value} {x : Value} {Q : Value -> Shared -> Prop} (hj : s.heap.IsTupleIter j t i) (ht : s.heap.IsTuple t its) (hx : its[i]? = some x)
  (hQ : ∀ h', h'.IsTupleIter j t (i + 1) -> Heap.SameBut j s.heap h' -> Q x { s with heap := h' }) : wpAny (model prog w) A (nextOf (.ref j)) Q E s := by
 obtain ⟨oj, ho, hcj, hdj⟩ := id hj
 obtain ⟨ot, hot, _, nt, hdt⟩ := ht
 unfold nextOf
 refine wpAny_bind (wpAny_callSpecial?_slot (name := Str.ofString "__next__") hj.typeIs F.slot_tuple_iterator_next (wpAny_call_entry F.slot_tuple_iterator_next hj.typeIs F.entry_tuple_iterator_next ?_ (F.args_tuple_iterator_next_1 _)))
 show wpAny _ _ (field (.ref j) 0 >>= _) _ _ s
 refine wpAny_bind (wpAny_field ho hdj (x := .ref t) rfl ?_)
 show wpAny _ _ (if (Value.ref t == Value.none) = true then _ else _) _ _ s
 rw [if_neg (show ¬ ((Value.ref t == Value.none) = true) by intro z; cases z)]
 show wpAny _ _ (field (.ref j) 1 >>= _) _ _ s
 refine wpAny_bind (wpAny_field ho hdj (x := .int i 0) rfl ?_)
 show wpAny _ _ (seqItems? (.ref t) >>= _) _ _ s
 refine wpAny_bind (wpAny_seqItems hot hdt ?_)
 simp only [Int.toNat_natCast, hx]
 refine wpAny_bind (wpAny_setField ho hdj (by simp) (wpAny_pure ⟨x, rfl, wpAny_pure (hQ _ ⟨_, Heap.get?_update_self _ ho (Obj.isFreed_of_fields (Obj.data_mapFields hdj _)), (Obj.cls_mapFields ..).trans hcj, ?_⟩ (Heap.SameBut.update ..))⟩))
 rw [Obj.data_mapFields hdj]; simp [rawInt]
theorem Zw2 {j t : Addr} {i : Nat} {its : Array Value} {Q : Value -> Shared -> Prop} (hh : A.handled = none) (hj : s.heap.IsTupleIter j t i) (ht : s.heap.IsTuple t its) (hx : its[i]? = none)
  (hE : ∀ h' e, Heap.ExtBut j s.heap h' → (∃ o, h'.get? e = some o ∧ o.cls = .type "StopIteration") → E (.ref e) { s with heap := h' }) : wpAny (model prog w) A (nextOf (.ref j)) Q E s := by
 obtain ⟨oj, ho, hcj, hdj⟩ := id hj
 obtain ⟨ot, hot, _, nt, hdt⟩ := ht
 unfold nextOf
 refine wpAny_bind (wpAny_callSpecial?_slot (name := Str.ofString "__next__") hj.typeIs F.slot_tuple_iterator_next (wpAny_call_entry F.slot_tuple_iterator_next hj.typeIs F.entry_tuple_iterator_next ?_ (F.args_tuple_iterator_next_1 _)))
 show wpAny _ _ (field (.ref j) 0 >>= _) _ _ s
 refine wpAny_bind (wpAny_field ho hdj (x := .ref t) rfl ?_)
 show wpAny _ _ (if (Value.ref t == Value.none) = true then _ else _) _ _ s
 rw [if_neg (show ¬ ((Value.ref t == Value.none) = true) by intro z; cases z)]
 show wpAny _ _ (field (.ref j) 1 >>= _) _ _ s
 refine wpAny_bind (wpAny_field ho hdj (x := .int i 0) rfl ?_)
 show wpAny _ _ (seqItems? (.ref t) >>= _) _ _ s
 refine wpAny_bind (wpAny_seqItems hot hdt ?_)
 simp only [Int.toNat_natCast, hx]
 refine wpAny_bind (wpAny_rule (wpAny_bind (wpAny_setField ho hdj (by simp) ?_)))
 show wpAny _ _ (newExc (.type "StopIteration") [] >>= _) _ _ _
 refine wpAny_bind ?_
 simp only [newExc, newTuple]
 refine wpAny_bind (wpAny_newObj_type ?_ (by size_fits))
 refine wpAny_bind (m := firstArgMember _ _) (wpAny_of_eq (a := Value.none) (by first | rfl | (simp only [firstArgMember]; rfl)) (wpAny_newObj_type ?_ (by size_fits)))
 simp only [raiseNew]
 refine wpAny_bind (wpAny_handled ?_)
 first | rw [show A.in1.handled = none from hh] | rw [hh]
 exact wpAny_bind (wpAny_pure (wpAny_throw (hE _ _ (((Heap.SameBut.update ..).extBut.push _).push _) ⟨_, Heap.get?_push_size _ rfl, rfl⟩)))
theorem Zrb {e j t : Addr} {i : Nat} {c : Int} {its : Array Value} {x old : Value} {Q : Option Value -> Shared -> Prop} (he : IsEnum s.heap e j c old) (hj : s.heap.IsTupleIter j t i) (ht : s.heap.IsTuple t its) (hx : its[i]? = some x) (hne : e ≠ j)
  (hQ : ∀ h' tk, IsEnumOut h' e j (c + 1) x s.heap.objs.size → h'.IsTupleIter j t (i + 1) → h'.get? s.heap.objs.size = some { cls := .type "tuple", data := .seq #[.int c tk, x] } → h'.objs.size = s.heap.objs.size + 1 →
   (∀ b o, b ≠ e -> b ≠ j -> s.heap.get? b = some o -> h'.get? b = some o) -> Q (some (.ref s.heap.objs.size)) { s with heap := h', toks := s.toks + 1 }) :
  wpAny (model prog w) A (pyNext (.ref e)) Q E s := by
 have hT : s.TypeIs (.ref e) "enumerate" := ⟨_, he, rfl⟩
 unfold pyNext
 refine wpAny_bind (wpAny_attempt (wpAny_callSpecial?_slot (name := Str.ofString "__next__") hT F.slot_enumerate_next (wpAny_call_entry F.slot_enumerate_next hT F.entry_enumerate_next ?_ (F.args_enumerate_next_1 _))))
 obtain ⟨hp, g, d, tk, os⟩ := s
 show wpAny _ _ (field (.ref e) 2 >>= _) _ _ _
 refine wpAny_bind (wpAny_field he rfl (x := .ref j) rfl (wpAny_bind (Ztg hj ht hx fun h1 j1 s1 => ?_)))
 replace s1 : Heap.SameBut j hp h1 := s1
 have e1 : IsEnum h1 e j c old := (s1.2 e hne).trans he
 show wpAny _ _ (field (.ref e) 3 >>= _) _ _ ⟨h1, g, d, tk, os⟩
 refine wpAny_bind (wpAny_field e1 rfl (x := rawInt c) rfl ?_)
 show wpAny _ _ (field (.ref e) 4 >>= _) _ _ ⟨h1, g, d, tk, os⟩
 refine wpAny_bind (wpAny_field e1 rfl (x := .none) rfl ?_)
 show wpAny _ _ (mkInt c >>= _) _ _ ⟨h1, g, d, tk, os⟩
 refine wpAny_bind (wpAny_mkInt ?_)
 show wpAny _ _ (setField (.ref e) 3 (rawInt (c + 1)) >>= _) _ _ ⟨h1, g, d, tk + 1, os⟩
 refine wpAny_bind (wpAny_setField_rec e1 (by simp) fun h2 e2 s2 => ?_)
 replace s2 : Heap.SameBut e h1 h2 := s2
 replace e2 : IsEnum h2 e j (c + 1) old := e2
 show wpAny _ _ (setField (.ref e) 4 .none >>= _) _ _ ⟨h2, g, d, tk + 1, os⟩
 refine wpAny_bind (wpAny_setField_rec e2 (by simp) fun h3 e3 s3 => ?_)
 replace s3 : Heap.SameBut e h2 h3 := s3
 replace e3 : IsEnum h3 e j (c + 1) old := e3
 show wpAny _ _ (newTuple [.int c tk, x] >>= _) _ _ ⟨h3, g, d, tk + 1, os⟩
 refine wpAny_bind (wpAny_newTuple ?_)
 have e4 : IsEnum (h3.push { cls := .type "tuple", data := .seq #[.int c tk, x] }) e j (c + 1) old := Heap.get?_push_of_some _ e3
 generalize q4 : h3.push { cls := .type "tuple", data := .seq #[.int c tk, x] } = h4 at e4
 have zz : h3.objs.size = hp.objs.size := by rw [s3.1, s2.1, s1.1]
 have lt : e < hp.objs.size := Heap.lt_size he
 have t4 : h4.get? hp.objs.size = some { cls := .type "tuple", data := .seq #[.int c tk, x] } := by rw [← q4, ← zz]; exact Heap.get?_push_size _ rfl
 have z4 : h4.objs.size = hp.objs.size + 1 := by rw [← q4, Heap.size_push, zz]
 have k4 : ∀ b o, b ≠ e -> b ≠ j -> hp.get? b = some o -> h4.get? b = some o := fun b o n1 n2 q => by
  rw [← q4]; exact Heap.get?_push_of_some _ (s3.extBut b o n1 (s2.extBut b o n1 (s1.extBut b o n2 q)))
 have j4 : h4.IsTupleIter j t (i + 1) := by
  obtain ⟨o, ho, r⟩ := id j1
  exact ⟨o, by rw [← q4]; exact Heap.get?_push_of_some _ (s3.extBut j o (Ne.symm hne) (s2.extBut j o (Ne.symm hne) ho)), r⟩
 show wpAny _ _ (Builtin.SmallTypes.ownedTupleIsFree (.ref e) >>= _) _ _ ⟨h4, g, d, tk + 1, os⟩
 rw [zz]
 clear q4 e3 s3 e2 s2 e1 s1 j1 zz h3 h2 h1
 refine wpAny_bind ?_
 unfold Builtin.SmallTypes.ownedTupleIsFree
 refine wpAny_bind (wpAny_field e4 rfl (x := .none) rfl (wpAny_pure ?_))
 simp only [if_true]
 refine wpAny_bind (wpAny_rule (wpAny_bind (wpAny_field e4 rfl (x := old) rfl (wpAny_bind (wpAny_setField_rec e4 (by simp) fun h5 e5 s5 => ?_)))))
 replace s5 : Heap.SameBut e h4 h5 := s5
 replace e5 : IsEnum h5 e j (c + 1) x := e5
 show wpAny _ _ (Builtin.SmallTypes.ownedTupleHandOut (.ref e) (.ref hp.objs.size) >>= _) _ _ ⟨h5, g, d, tk + 1, os⟩
 refine wpAny_bind ?_
 unfold Builtin.SmallTypes.ownedTupleHandOut
 refine wpAny_bind (wpAny_setField_rec e5 (by simp) fun h6 e6 s6 => ?_)
 replace s6 : Heap.SameBut e h5 h6 := s6
 replace e6 : IsEnumOut h6 e j (c + 1) x hp.objs.size := e6
 refine wpAny_setField_rec e6 (by simp) fun h7 e7 s7 => ?_
 replace s7 : Heap.SameBut e h6 h7 := s7
 replace e7 : IsEnumOut h7 e j (c + 1) x hp.objs.size := e7
 have up : ∀ b o, b ≠ e -> h4.get? b = some o -> h7.get? b = some o := fun b o n q => s7.extBut b o n (s6.extBut b o n (s5.extBut b o n q))
 refine wpAny_bind (wpAny_letGo (wpAny_pure ⟨_, rfl, wpAny_pure (hQ h7 tk e7 ?_ (up _ _ (Nat.ne_of_gt lt) t4) (by rw [s7.1, s6.1, s5.1, z4]) fun b o n1 n2 q => up b o n1 (k4 b o n1 n2 q))⟩))
 obtain ⟨o, ho, r⟩ := id j4
 exact ⟨o, up j o (Ne.symm hne) ho, r⟩
theorem Zsc {e j t : Addr} {i : Nat} {c : Int} {its : Array Value} {old : Value} {Q : Option Value -> Shared -> Prop} (hh : A.handled = none) (he : IsEnum s.heap e j c old) (hj : s.heap.IsTupleIter j t i) (ht : s.heap.IsTuple t its) (hx : its[i]? = none)
  (hQ : ∀ h', Heap.ExtBut j s.heap h' -> Q none { s with heap := h' }) : wpAny (model prog w) A (pyNext (.ref e)) Q E s := by
 have hT : s.TypeIs (.ref e) "enumerate" := ⟨_, he, rfl⟩
 unfold pyNext
 refine wpAny_bind (wpAny_attempt (wpAny_callSpecial?_slot (name := Str.ofString "__next__") hT F.slot_enumerate_next (wpAny_call_entry F.slot_enumerate_next hT F.entry_enumerate_next ?_ (F.args_enumerate_next_1 _))))
 show wpAny _ _ (field (.ref e) 2 >>= _) _ _ _
 refine wpAny_bind (wpAny_field he rfl (x := .ref j) rfl (wpAny_bind (Zw2 hh hj ht hx fun h' z he' zz => ?_)))
 obtain ⟨o, ho, hc⟩ := zz
 exact wpAny_bind (wpAny_isInstance (T := "StopIteration") (b := true) ⟨o, ho, hc⟩ isSubtype_stop (wpAny_pure (hQ _ he')))
open AutoSeq1 (wpAny_loadPart') in
theorem Zp3 (t : Addr) (its : Array Value) (n : Nat) (dct : Option Addr) (sl : Array (Option Value)) :
  Meets (Builtin.«enumerate.__new__» ⟨[.type "enumerate", .ref t], []⟩) (fun _ R s => s.heap.get? t = some { cls := .type "tuple", dict := dct, data := .seq its n, slots := sl } ∧
   R (.ok (.ret (.ref (s.heap.push { cls := .type "tuple_iterator", data := .fields #[.ref t, .int 0 0] }).objs.size)))
    { s with heap := (s.heap.push { cls := .type "tuple_iterator", data := .fields #[.ref t, .int 0 0] }).push { cls := .type "enumerate", data := .fields #[.none, .bool false, .ref s.heap.objs.size, rawInt 0, .none, .none] } }) :=
 .of_wp fun prog w A R s h => by
  obtain ⟨hp, g, d, tk, os⟩ := s; obtain ⟨hl, h⟩ := h
  have hsub := sub_enumerate
  have hL : Heap.IsTuple (Shared.heap ⟨hp, g, d, tk, os⟩) t its := ⟨_, hl, rfl, n, rfl⟩
  wp_walk using wpAny_loadPart' hl
  refine wpAny_stack_any fun st => wpAny_pure ?_
  split
  ·rename_i k _ _ _ _ _
   cases (k == Value.type "enumerate") <;> (wp_walk using wpAny_loadPart' hl, wpAny_pyIter_tuple hL; exact ⟨_, rfl, h⟩)
  ·wp_walk using wpAny_loadPart' hl, wpAny_pyIter_tuple hL
   exact ⟨_, rfl, h⟩
theorem Zo4 {t : Addr} {its : Array Value} {Q : Value -> Shared -> Prop} (hL : s.heap.IsTuple t its)
  (h : ∀ h', IsEnum h' (s.heap.objs.size + 1) s.heap.objs.size 0 .none -> h'.IsTupleIter s.heap.objs.size t 0 -> h'.objs.size = s.heap.objs.size + 2 →
   (∀ b o, s.heap.get? b = some o -> h'.get? b = some o) -> Q (.ref (s.heap.objs.size + 1)) { s with heap := h' }) :
  wpAny (model prog w) A (call (.type "enumerate") [.ref t]) Q E s := by
 obtain ⟨⟨k, dct, dt, sl⟩, hl, hc, n, hd⟩ := hL
 replace hc : k = .type "tuple" := hc
 replace hd : dt = .seq its n := hd
 subst hc hd
 refine callType_new F.called_enumerate (by decide) (F.typeCall_enumerate_1 _) (F.newCall_enumerate_1 _) (fun obj => F.args_object_init_2 obj _) F.entry_enumerate_new (Zp3 t its n dct sl) ⟨hl, ?_⟩
 have hz : (s.heap.push { cls := .type "tuple_iterator", data := .fields #[.ref t, .int 0 0] }).objs.size = s.heap.objs.size + 1 := Heap.size_push ..
 show _ ∧ _
 rw [hz]
 have he : IsEnum ((s.heap.push { cls := .type "tuple_iterator", data := .fields #[.ref t, .int 0 0] }).push { cls := .type "enumerate", data := .fields #[.none, .bool false, .ref s.heap.objs.size, rawInt 0, .none, .none] }) (s.heap.objs.size + 1) s.heap.objs.size 0 .none := by
  have q := Heap.get?_push_size (s.heap.push { cls := .type "tuple_iterator", data := .fields #[.ref t, .int 0 0] }) (o := { cls := .type "enumerate", data := .fields #[.none, .bool false, .ref s.heap.objs.size, rawInt 0, .none, .none] }) rfl
  rw [hz] at q; exact q
 exact ⟨⟨_, he, rfl⟩, h _ he ⟨_, Heap.get?_push_of_some _ (Heap.get?_push_size _ rfl), rfl, rfl⟩ (by rw [Heap.size_push, hz]) fun b o x => Heap.get?_push_of_some _ (Heap.get?_push_of_some _ x)⟩
end
noncomputable def Zx5 (K : PySem.W.Frag) (c : Int) (a : Addr) : It :=
 ⟨fun i H => ∃ xs x, SqT K H a xs ∧ xs[i]? = some x, fun i H v H' => ∃ p x, H p = none ∧ v = .ref p ∧ H' = upd H p (.tup [.int (c + i), x]) ∧ ∀ xs, SqT K H a xs -> xs[i]? = some x, fun i H => ∃ xs, SqT K H a xs ∧ xs.length ≤ i⟩
theorem Zjb {P : Program} {w : World} {K : PySem.W.Frag} {es : List Expr} {k : Nat} {pos : Pos} (a e j : Addr) (c : Int) (hne : e ≠ j) : Turn P w K (.Tuple es k pos) (Zx5 K c a) [e, j] e (fun i h => ∃ old, IsEnum h e j (c + i) old ∧ h.IsTupleIter j a i) where
 mem := by simp
 obj := fun i h st b hb => by
  obtain ⟨old, he, o, ho, hc, hd⟩ := st
  rcases List.mem_cons.mp hb with rfl | hb
  ·exact ⟨_, he, fun v z => by cases z⟩
  ·have : b = j := by simpa using hb
   subst this
   exact ⟨o, ho, fun v z => by rw [hd] at z; cases z⟩
 keep := fun i h h' st kk => by
  obtain ⟨old, he, o, ho, r⟩ := st
  exact ⟨old, kk e (by simp) _ he, o, kk j (by simp) o ho, r⟩
 item := by
  intro X hP hw hK hc i pins s σ H E I hf st hg
  subst hP hw hK
  obtain ⟨xs, x, hq, hx⟩ := hg
  obtain ⟨old, he, hj⟩ := st
  obtain ⟨its, rv, p, hz⟩ := I.tuple hq
  obtain ⟨u, hu, ru⟩ := rv.get hx
  have fe := hf e (by simp)
  have fj := hf j (by simp)
  refine Zrb he hj (show s.heap.IsTuple a its.toArray from p) (x := u) (by simpa using hu) hne fun h' tk eo j' t' z' kk => ?_
  refine ⟨_, rfl, wpAny_letOwnedTupleGo_enum (s := { s with heap := h', toks := s.toks + 1 }) eo fun h2 e2 s2 => ?_⟩
  replace s2 : Heap.SameBut e h' h2 := s2
  have le : e < s.heap.objs.size := Heap.lt_size he
  have ne2 : s.heap.objs.size ≠ e := Nat.ne_of_gt le
  -- the iterator's two records have turned, the pair is new
  have t2 : h2.get? s.heap.objs.size = some { cls := .type "tuple", data := .seq #[.int (c + i) tk, u] } := s2.extBut _ _ ne2 t'
  have hp0 : H s.heap.objs.size = none := I.hok.fresh (Nat.le_refl _)
  have up : ∀ b o, b ∉ [e, j] -> s.heap.get? b = some o -> h2.get? b = some o := fun b o hb q =>
   s2.extBut b o (fun z => hb (by simp [z])) (kk b o (fun z => hb (by simp [z])) (fun z => hb (by simp [z])) q)
  have I2 : Inv X pins σ (upd H s.heap.objs.size (.tup [.int (c + i), x])) { s with heap := h2, toks := s.toks + 1 } := by
   refine I.step (g' := s.gens) (d' := s.drawn) (t' := s.toks + 1) (ch := [e, j]) (fun b hb => ?_) (fun b o _ _ hb q n => up b o hb q) (fun b o _ _ hb q n => ⟨o.slots, up b o hb q⟩) (fun b o _ q n => ?_) (fun b o hb q => ⟨o, up b o hb q⟩) (fun b ys q => ?_) (fun b o y q => ?_) (fun b ps q => ⟨#[], ?_⟩) (fun m hm => ?_) (fun b o q => ?_) I.bare
   ·have := hf b hb; exact ⟨this.2.2.2.1, this.2.1, this.2.2.2.2.1, this.2.2.2.2.2⟩
   ·rw [Zaj (Nat.ne_of_lt (Heap.lt_size q))]; exact n
   ·rw [Zaj (Zal q hp0)]; exact q
   ·rw [Zaj (Zal q hp0)]; exact q
   ·rw [Zaj (Zal q hp0), q]; simp
   ·obtain ⟨o, es', ep, ho, r⟩ := hm
    exact ⟨o, es', ep, s2.extBut _ o (Ne.symm fe.2.1) (kk _ o (Ne.symm fe.2.1) (Ne.symm fj.2.1) ho), r⟩
   ·by_cases hb : b = s.heap.objs.size
    ·subst hb
     rw [Zaq] at q
     cases q
     exact ⟨(by show 2 ≤ sizeLine; decide), [.int (c + i) tk, u], .cons ⟨tk, rfl⟩ (.cons ru .nil), _, t2, rfl, ⟨_, rfl⟩, rfl⟩
    ·rw [Zaj hb] at q
     refine (I.hok b o q).stay (fun d v hd z => up d v (fun hm => ?_) z) (fun d z => by rw [Zaj (Zal z hp0)]; exact z) fun d ys z => by rw [Zaj (Zal z hp0)]; exact z
     have : H d ≠ none := by
      rcases hd with rfl | hd
      ·rw [q]; simp
      ·rw [hd]; simp
     exact this (hf d hm).1
  refine ⟨.ref s.heap.objs.size, _, I2, rfl, ⟨_, x, hp0, rfl, rfl, fun ys hy => by rw [I.tuple_inj hy hq]; exact hx⟩, ?_, fun b hb => ?_⟩
  ·obtain ⟨o, ho, r⟩ := id j'
   have ec : c + ((i + 1 : Nat) : Int) = c + (i : Int) + 1 := by push_cast; omega
   exact ⟨u, by rw [ec]; exact e2, o, s2.extBut j o (Ne.symm hne) ho, r⟩
  ·have hb2 : b ≠ s.heap.objs.size := by
    rcases List.mem_cons.mp hb with rfl | hb
    ·exact Nat.ne_of_lt le
    ·have : b = j := by simpa using hb
     subst this
     obtain ⟨o, ho, _⟩ := id hj
     exact Nat.ne_of_lt (Heap.lt_size ho)
   rw [Zaj hb2]; exact (hf b hb).1
 done := by
  intro X hP hw hK hc i pins s σ H E I hf st hg
  subst hP hw hK
  obtain ⟨xs, hq, hx⟩ := hg
  obtain ⟨old, he, hj⟩ := st
  obtain ⟨its, rv, p, hz⟩ := I.tuple hq
  obtain ⟨f0, f1, f2, f3, f4, f5⟩ := hf j (by simp)
  have hl := rv.length
  exact Zsc (I.ok.hd hc) he hj (show s.heap.IsTuple a its.toArray from p) (by simp; omega) fun h' eb => ⟨rfl, I.turned (t' := s.toks) (fun b o hb q => eb b o hb q) f0 f1 f3 f4 f5⟩
 self := fun _ _ _ _ _ st h => by
  obtain ⟨old, he, _⟩ := st
  exact wpAny_pyIter_enum he h
section
variable {X : Cx}
noncomputable def Zey (c : Int) : List D -> List D
 | [] => []
 | x :: r => .tup [.int c, x] :: Zey (c + 1) r
theorem Zht : ∀ (xs : List D) (c : Int), (Zey c xs).length = xs.length
 | [], _ => rfl
 | x :: r, c => by simp [Zey, Zht r]
theorem Zku : ∀ {xs : List D} {c : Int} {i : Nat} {d : D}, (Zey c xs)[i]? = some d -> ∃ x, xs[i]? = some x ∧ d = .tup [.int (c + i), x]
 | [], c, i, d, h => by simp [Zey] at h
 | x :: r, c, 0, d, h => by simp [Zey] at h; exact ⟨x, rfl, by rw [← h]; simp⟩
 | x :: r, c, i + 1, d, h => by
  simp only [Zey, List.getElem?_cons_succ] at h
  obtain ⟨y, h1, h2⟩ := Zku h
  refine ⟨y, by simpa using h1, ?_⟩
  rw [h2]
  have : c + 1 + (i : Int) = c + ((i + 1 : Nat) : Int) := by push_cast; omega
  rw [this]
theorem Zn2 {K : PySem.W.Frag} {H0 : Hp} {ι0 : List Addr} {a : Addr} {c : Int} {xs : List D} {vs : List V} (hS : SqT K H0 a vs) (P : Paired (Rep K H0 ι0) xs vs)
  (inj : ∀ (i : Nat) (H : Hp) (x : V), (∀ ys, SqT K H a ys -> ys[i]? = some x) -> SqT K H a vs -> vs[i]? = some x) : ItRep K (Zx5 K c a) (Zey c xs) [] H0 ι0 := by
 refine ⟨fun i H2 ι2 Hd2 l2 h2 _ hi => ?_, fun i H2 ι2 Hd2 d v H3 l2 h2 _ hd y => ?_, fun i H2 ι2 Hd2 l2 h2 _ hi => ⟨vs, l2.tup a vs hS, by rw [← Prd.len P, ← Zht xs c]; exact hi⟩⟩
 ·exact ⟨vs, vs[i]'(by rw [← Prd.len P, ← Zht xs c]; exact hi), l2.tup a vs hS, by simp⟩
 ·obtain ⟨p, x, hp, rfl, rfl, y⟩ := y
  obtain ⟨x', hx', rfl⟩ := Zku hd
  obtain ⟨u, hu, ru⟩ := Prd.get P hx'
  have := y vs (l2.tup a vs hS)
  rw [hu] at this
  cases this
  refine ⟨ι2, Le.fresh hp _, h2.tup hp _, Za4.mpr ⟨p, _, rfl, SqT.of Zaq, .cons (by simp) (.cons ((ru.mono l2).mono (Le.fresh hp _)) .nil)⟩⟩
noncomputable def Zs4 (f : AF) : ItF := fun σ H => (f σ H).bind fun p => match p.1 with
 | [.tup xs] => some ((Zey 0 xs, []), p.2)
 | _ => none
theorem Zuq {es : List Expr} {k : Nat} {tp p pos : Pos} {a : Expr} {f : AF} (hg : Gl X "enumerate") (hm : X.mg "enumerate" = none) (ha : PAf X [a] f) (hs : starEach [a] X.env = [(false, eval a X.env)] := by rfl) : PIf X (.Tuple es k tp) (.Call (.Name "enumerate" p) [a] [] pos) (Zs4 f) := by
 rintro pins s σ H R I ⟨ι, σd, Hd, xs, own, Hd', sr, hr, e, q⟩
 obtain ⟨⟨ds, H1⟩, e1, e⟩ := Zo e
 dsimp only at e
 split at e
 ·rename_i ys
  cases e
  refine Call_ (Zhn I hg hm boot_enumerate (PyProof.Rows.callWith_type1 (thn (ha pos pins s σ H (fun vs H' => ∃ a ws, vs = [.ref a] ∧ SqT X.K H' a ws ∧ ∀ (J : It) (H2 : Hp), H2 = H' -> J = Zx5 X.K 0 a -> R J H2) I ⟨ι, σd, Hd, _, _, sr, hr, e1, fun vs H' ι' l h P => ?_⟩) fun us s1 ⟨vs, H2, I2, r2, q2⟩ => ?_) hs rfl))
  ·obtain ⟨v, rfl, r⟩ := Zj5 P
   obtain ⟨ad, ws, rfl, hS, P2⟩ := Za4.mp r
   refine ⟨ad, ws, rfl, hS, fun J H2 e2 e3 => ?_⟩
   subst e2 e3
   exact q _ _ ι' l h (Zn2 hS P2 fun i H x y h => y ws h)
  ·obtain ⟨ad, ws, rfl, hS, q2⟩ := q2
   obtain ⟨u, rfl, ru⟩ := Zir r2
   cases ru
   obtain ⟨its, rv, p, hz⟩ := I2.tuple hS
   refine Zo4 (show s1.heap.IsTuple ad its.toArray from p) fun h' he hj z' kk => ?_
   have I3 : Inv X pins σ H2 { s1 with heap := h' } := I2.kept (t' := s1.toks) kk
   refine wpAny_pyIter_enum (s := { s1 with heap := h' }) he ?_
   have ne : s1.heap.objs.size + 1 ≠ s1.heap.objs.size := Nat.succ_ne_self _
   refine ⟨s1.heap.objs.size + 1, [s1.heap.objs.size + 1, s1.heap.objs.size], _, Zx5 X.K 0 ad, H2, rfl, I3, Zjb ad _ _ 0 ne, ⟨.none, by simpa using he, hj⟩, fun b hb => ?_, q2 _ _ rfl rfl⟩
   have : s1.heap.objs.size ≤ b := by
    rcases List.mem_cons.mp hb with rfl | hb
    ·exact Nat.le_succ _
    ·have : b = s1.heap.objs.size := by simpa using hb
     rw [this]; exact Nat.le_refl _
   have fp := I2.fpOk (b := b) (H' := H2) this (I2.hok.fresh this)
   exact fp
 ·cases e
end
section
variable {X : Cx}
noncomputable def It3 (lo c : Int) (n : Nat) : It := ⟨fun i _ => i < n, fun i H x H' => H' = H ∧ x = .int (lo + i * c), fun i _ => n ≤ i⟩
theorem Zmo {P : Program} {w : World} {K : PySem.W.Frag} {tg : Expr} (it : Addr) (lo c : Int) (n : Nat) : Turn P w K tg (It3 lo c n) [it] it (fun i h => IsRangeIter h it (lo + (i : Nat) * c) ((n : Int) - (i : Nat)) c) where
 mem := by simp
 obj := fun i h st b hb => by
  have e : b = it := by simpa using hb
  subst e
  exact ⟨_, st, fun v z => by
   have z' : Data.fields _ = Data.cell v := z
   cases z'⟩
 keep := fun i h h' st k => k it (by simp) _ st
 item := by
  intro X hP hw hK hc i pins s σ H E I hf st hg
  subst hP hw hK
  obtain ⟨f0, f1, f2, f3, f4, f5⟩ := hf it (by simp)
  have W := Walks.range (prog := X.prog) (w := X.w) (I.ok.hd hc) it lo c n
  refine W.item i s _ _ hg st fun v h' tk hv st' kk => ?_
  obtain ⟨t, rfl⟩ := hv
  have I1 : Inv X pins σ H { s with heap := h', toks := tk } := I.turned (fun b o hb e => kk b o (by simpa using hb) e) f0 f1 f3 f4 f5
  exact ⟨_, rfl, Zsh (s := { s with heap := h', toks := tk }) (n := "range_iterator") st' rfl rfl (by decide) ⟨.int (lo + i * c), H, I1, ⟨t, rfl⟩, ⟨rfl, rfl⟩, st', fun b hb => (hf b hb).1⟩⟩
 done := by
  intro X hP hw hK hc i pins s σ H E I hf st hg
  subst hP hw hK
  obtain ⟨f0, f1, f2, f3, f4, f5⟩ := hf it (by simp)
  exact wpAny_pyNext_range_end (I.ok.hd hc) st (by have : n ≤ i := hg; omega) fun h' eb => ⟨rfl, I.turned (t' := s.toks) (fun b o hb e => eb b o hb e) f0 f1 f3 f4 f5⟩
 self := fun _ _ _ _ _ st h => wpAny_pyIter_rangeiter st h
noncomputable def Zfg (lo c : Int) (n : Nat) : List D := (List.range n).map fun k : Nat => .int (lo + (k : Int) * c)
end
structure Fn (P : Program) (w : World) (K : PySem.W.Frag) (mg : Str -> Option Value) (base : Heap) (k : Nat) (x : Str) (ps : List Str) (F : FF) : Prop where
 ex : ∃ f fd, FnOk P w K mg base CX0 k f fd ps (spF K ps.length F) ∧ Zfe K fd ps [] ∧ PySem.W.keepIn K (.ref f) = true ∧ mg x = some (.ref f) ∧ ∃ (oc : Value) (od : Option Addr) (osl : Array (Option Value)), K.lookup f = some ⟨oc, od, .func fd, osl⟩
theorem Za0 {X : Cx} {k n : Nat} {ps : List Str} {x : Str} {p pos : Pos} {F : FF} {fa : AF} {e : Expr} {es : List Expr} (G : Fn X.prog X.w X.K X.mg X.base k x ps F) (hr : Room k X.A) (hg : Gl X x)
  (ha : PAf X (e :: es) fa) (hdb : (x == ("__debug__" : Str)) = false := by decide) (he : starEach (e :: es) X.env = (false, eval e X.env) :: starEach es X.env := by exact Zat rfl) (hpl : (backTo pos (starEach es X.env)).any (·.1) = false := by exact Zct rfl) (hn : ps.length = n := by rfl) :
  PEf X (.Call (.Name x p) (e :: es) [] pos) (Zai n F fa) := by
 subst hn
 obtain ⟨f, fd, G1, hb, hk, hm, _⟩ := G.ex
 exact Zs1 G1 hr hg hm hk hb ha hdb he hpl
noncomputable def Tf (K : PySem.W.Frag) (mg : Str -> Option Value) (x : Str) (st : Stmt) : Prop := ∃ f fd, Fun K x x st f fd ∧ mg x = some (.ref f)
theorem us0 {us : List Value} (h : us.length = 0) : us = [] := List.length_eq_zero_iff.mp h
theorem us1 {us : List Value} (h : us.length = 1) : ∃ a, us = [a] := by
 obtain ⟨a, r⟩ := List.exists_cons_of_length_eq_add_one h
 obtain ⟨t, rfl⟩ := r
 rw [us0 (us := t) (by simpa using h)]
 exact ⟨a, rfl⟩
theorem us2 {us : List Value} (h : us.length = 2) : ∃ a b, us = [a, b] := by
 obtain ⟨a, t, rfl⟩ := List.exists_cons_of_length_eq_add_one h
 obtain ⟨b, rfl⟩ := us1 (us := t) (by simpa using h)
 exact ⟨a, b, rfl⟩
theorem us3 {us : List Value} (h : us.length = 3) : ∃ a b c, us = [a, b, c] := by
 obtain ⟨a, t, rfl⟩ := List.exists_cons_of_length_eq_add_one h
 obtain ⟨b, c, rfl⟩ := us2 (us := t) (by simpa using h)
 exact ⟨a, b, c, rfl⟩
theorem us4 {us : List Value} (h : us.length = 4) : ∃ a b c d, us = [a, b, c, d] := by
 obtain ⟨a, t, rfl⟩ := List.exists_cons_of_length_eq_add_one h
 obtain ⟨b, c, d, rfl⟩ := us3 (us := t) (by simpa using h)
 exact ⟨a, b, c, d, rfl⟩
theorem tf_mk {K : PySem.W.Frag} {h : Heap} {mg : Str -> Option Value} {x : Str} {st : Stmt} {f : Addr} {oc : Value} {od an : Option Addr} {osl : Array (Option Value)} {kV doc pm cdv ct : Value} (X : K.In h) (G : h.Ns mainGlobals mg)
  (a : PySem.W.nsIn K mainGlobals x = some (some (.ref f))) (l : K.lookup f = some ⟨oc, od, .func (PySem.W.fnOf x x (Zda st) (Zbe st) (Zad st) .none kV doc pm an cdv ct), osl⟩)
  (c : PySem.W.codeIn K cdv x = true) (k : PySem.W.keepIn K (.ref f) = true) : Tf K mg x st := ⟨f, _, Zp2 l c k, PySem.W.mg_of X G a⟩
theorem Zc0 {P : Program} {w : World} {K : PySem.W.Frag} {mg : Str -> Option Value} {base : Heap} {x : Str} {st : Stmt} {N ps : List Str} {k : Nat} {b : SF} (T : Tf K mg x st) (S : FnScope N ps (Zad st))
  (hbd : ∀ (kV doc pm : Value) (an : Option Addr) (cdv ct : Value) (us : List Value), us.length = ps.length -> bindArgs (PySem.W.fnOf x x (Zda st) (Zbe st) (Zad st) .none kV doc pm an cdv ct) ⟨us, []⟩ = pure (ps.zip us))
  (hb : ∀ (f : Addr) (cdv : Value) (A : Around) (outer : List Env) (s : Shared) (H : Hp) (E : XK), Room k (A.deeper (envOfC x (Zad st) s.heap.objs.size f cdv)) →
   Zng (Ze2 CX0 P w K mg base N x (Zad st) f cdv A outer s H E).nox (Zbe st) b) : Fn P w K mg base (k + 1) x ps (Zbp ps.length N.length b) := by
 obtain ⟨f, fd, F, hm⟩ := T
 refine ⟨f, fd, fn_f F S fun cdv A outer s H E hr => hb f cdv A outer s H E hr, F.binds hbd, F.kp, hm, ?_⟩
 obtain ⟨oc, od, kV, doc, pm, an, cdv, ct, osl, rfl, lk, hcd⟩ := F.ex
 exact ⟨oc, od, osl, lk⟩
noncomputable def blkB (sc scope : Scope) (N : List Str) (x : Str) (cn : List Str) (ci : List Nat) : Bool :=
 (scope.kind == .function) && scope.names.all (fun y => y.2 != .cell) && scope.names.all (fun y => y.2 != .local || scope.names.lookup y.1 == some .local) && (scope.names.lookup x == some .local) &&
 scope.names.all (fun y => y.2 != .free || sc.names.lookup y.1 == some .cell) && decide (x :: cn).Nodup && (ci.length == cn.length) &&
 (cn.zip ci).all (fun p => N[p.2]? == some p.1 && scope.names.lookup p.1 == some .free && sc.names.lookup p.1 == some .cell)
theorem Znn {P : Program} {w : World} {K : PySem.W.Frag} {mg : Str -> Option Value} {base : Heap} {N : List Str} {qual : Str} {sc scope : Scope} {f : Addr} {cdv : Value} {A : Around} {outer : List Env} {s : Shared} {H : Hp} {E : XK} {x : Str} {cn : List Str} {ci : List Nat}
  (h : blkB sc scope N x cn ci = true) : BlkOk (Ze2 CX0 P w K mg base N qual sc f cdv A outer s H E).nox scope x cn ci := by
 unfold blkB at h
 simp only [Bool.and_eq_true, List.all_eq_true, Bool.or_eq_true, bne_iff_ne, ne_eq, beq_iff_eq, decide_eq_true_eq] at h
 obtain ⟨⟨⟨⟨⟨⟨⟨h1, h2⟩, h3⟩, h4⟩, h5⟩, h6⟩, h7⟩, h8⟩ := h
 refine ⟨h1, fun y hy => h2 y hy, fun y hy hl => (h3 y hy).resolve_left fun z => z hl, h4, fun y hy hf => ?_, h6, h7, fun j y hj => ?_⟩
 ·have := (h5 y hy).resolve_left fun z => z hf
  obtain ⟨c, hc⟩ := Zji (n := s.heap.objs.size + 1) this
  exact Option.isSome_iff_exists.mpr ⟨c, hc⟩
 ·have hl : j < ci.length := by rw [h7]; exact (List.getElem?_eq_some_iff.mp hj).1
  have hm : (y, ci[j]) ∈ cn.zip ci := by
   refine List.mem_iff_getElem?.mpr ⟨j, ?_⟩
   rw [List.getElem?_zip_eq_some]
   exact ⟨hj, by simp [hl]⟩
  obtain ⟨⟨k1, k2⟩, k3⟩ := h8 _ hm
  exact ⟨ci[j], by simp [hl], k1, k2, .inl k3⟩
theorem Zu1 : bootBuiltins "len" = some (.builtin "len") := by decide +kernel
theorem Zy6 : bootBuiltins "abs" = some (.builtin "abs") := by decide +kernel
theorem Zjp : bootBuiltins "isinstance" = some (.builtin "isinstance") := by decide +kernel
theorem Zq9 : bootBuiltins "repr" = some (.builtin "repr") := by decide +kernel
theorem Zna : bootBuiltins "int" = some (.type "int") := by decide +kernel
theorem Zha : bootBuiltins "tuple" = some (.type "tuple") := by decide +kernel
theorem Zvn : bootBuiltins "list" = some (.type "list") := by decide +kernel
theorem Zr3 : bootBuiltins "bool" = some (.type "bool") := by decide +kernel
theorem Zyi : bootBuiltins "str" = some (.type "str") := by decide +kernel
section
variable {X : Cx} {tg : Expr}
theorem Zxt {K : PySem.W.Frag} {H0 : Hp} {ι0 : List Addr} {a : Addr} {xs : List D} {vs : List V} (hS : SqT K H0 a vs) (P : Paired (Rep K H0 ι0) xs vs) : ItRep K (Itt K a) xs [] H0 ι0 := by
 refine ⟨fun i H2 ι2 Hd2 l2 h2 _ hi => ?_, fun i H2 ι2 Hd2 d x H3 l2 h2 _ hd y => ?_, fun i H2 ι2 Hd2 l2 h2 _ hi => ⟨vs, l2.tup a vs hS, by rw [← Prd.len P]; exact hi⟩⟩
 ·exact ⟨vs, vs[i]'(by rw [← Prd.len P]; exact hi), l2.tup a vs hS, by simp⟩
 ·obtain ⟨rfl, y⟩ := y
  obtain ⟨u, hu, ru⟩ := Prd.get P hd
  have := y vs (l2.tup a vs hS)
  rw [hu] at this
  cases this
  exact ⟨ι2, Le.refl, h2, ru.mono l2⟩
theorem Zyz {K : PySem.W.Frag} {H0 : Hp} {ι0 : List Addr} {a : Addr} {xs : List D} {vs : List V} (hS : FzL K H0 a vs) (P : Paired (Rep K H0 ι0) xs vs) : ItRep K (Itl K a) xs [] H0 ι0 := by
 refine ⟨fun i H2 ι2 Hd2 l2 h2 _ hi => ?_, fun i H2 ι2 Hd2 d x H3 l2 h2 _ hd y => ?_, fun i H2 ι2 Hd2 l2 h2 _ hi => ⟨vs, (l2.fz a vs hS).sq, by rw [← Prd.len P]; exact hi⟩⟩
 ·exact ⟨vs, vs[i]'(by rw [← Prd.len P]; exact hi), (l2.fz a vs hS).sq, by simp⟩
 ·obtain ⟨rfl, y⟩ := y
  obtain ⟨u, hu, ru⟩ := Prd.get P hd
  have := y vs (l2.fz a vs hS).sq
  rw [hu] at this
  cases this
  exact ⟨ι2, Le.refl, h2, ru.mono l2⟩
theorem Zw3 {K : PySem.W.Frag} {H0 : Hp} {ι0 : List Addr} {a : Addr} {n : Nat} {xs : List D} (ha : ι0[n]? = some a) : ItRep K (Itl K a) xs [(n, .lst xs)] H0 ι0 := by
 have now : ∀ {H2 : Hp} {ι2 : List Addr} {Hd2 : HD}, Le K H0 ι0 H2 ι2 -> HRep K H2 ι2 Hd2 -> Zeg [(n, DO.lst xs)] Hd2 -> ∃ ws, H2 a = some (.lst ws) ∧ Paired (Rep K H2 ι2) xs ws := fun {H2 ι2 Hd2} l2 h2 ok =>
  h2.obj n a _ (l2.get ha) (ok (n, .lst xs) (by simp))
 refine ⟨fun i H2 ι2 Hd2 l2 h2 ok hi => ?_, fun i H2 ι2 Hd2 d x H3 l2 h2 ok hd y => ?_, fun i H2 ι2 Hd2 l2 h2 ok hi => ?_⟩
 ·obtain ⟨ws, h3, P3⟩ := now l2 h2 ok
  exact ⟨ws, ws[i]'(by rw [← Prd.len P3]; exact hi), SqL.of h3, by simp⟩
 ·obtain ⟨ws, h3, P3⟩ := now l2 h2 ok
  obtain ⟨rfl, y⟩ := y
  obtain ⟨u, hu, ru⟩ := Prd.get P3 hd
  have := y ws (SqL.of h3)
  rw [hu] at this
  cases this
  exact ⟨ι2, Le.refl, h2, ru⟩
 ·obtain ⟨ws, h3, P3⟩ := now l2 h2 ok
  exact ⟨ws, SqL.of h3, by rw [← Prd.len P3]; exact hi⟩
noncomputable def iSq (f : EF) : ItF := fun σ H => (f σ H).bind fun p => (Zie p.1 p.2).map fun r => (r, p.2)
theorem Ze8 {l : Expr} {f : EF} (hl : PEf X l f) : PIf X tg l (iSq f) := by
 rintro pins s σ H R I ⟨ι, σd, Hd, xs, own, Hd', sr, hr, e, q⟩
 obtain ⟨⟨d, H1⟩, e1, e⟩ := Zo e
 obtain ⟨⟨ys, ow⟩, e2, e⟩ := Zm e
 obtain ⟨e3, rfl⟩ := Prod.mk.inj e
 obtain ⟨rfl, rfl⟩ := Prod.mk.inj e3
 refine thn (hl pins s σ H (fun v H1 => ∃ a, v = .ref a ∧ (((∃ xs, SqL X.K H1 a xs) ∧ R (Itl X.K a) H1) ∨ ((∃ xs, SqT X.K H1 a xs) ∧ R (Itt X.K a) H1))) I ⟨ι, σd, Hd, _, _, sr, hr, e1, fun v H' ι' l h r => ?_⟩) fun v s1 ⟨x, H2, I2, r2, q2⟩ => ?_
 ·cases d with
  | tup zs =>
   cases e2
   obtain ⟨a, vs, rfl, hS, P⟩ := Za4.mp r
   exact ⟨a, rfl, .inr ⟨⟨vs, hS⟩, q _ H' ι' l h (Zxt hS P)⟩⟩
  | fl zs =>
   cases e2
   obtain ⟨a, vs, rfl, hS, P⟩ := Zfw.mp r
   exact ⟨a, rfl, .inl ⟨⟨vs, hS.sq⟩, q _ H' ι' l h (Zyz hS P)⟩⟩
  | ref n =>
   simp only [Zie] at e2
   split at e2
   ·rename_i zs eo
    obtain ⟨e5, e6⟩ := Prod.mk.inj (Option.some.inj e2)
    subst e5 e6
    obtain ⟨a, rfl, ha⟩ := Zak.mp r
    obtain ⟨vs, h1, P⟩ := h.obj n a _ ha eo
    exact ⟨a, rfl, .inl ⟨⟨vs, SqL.of h1⟩, q _ H' ι' l h (Zw3 ha)⟩⟩
   ·cases e2
  | _ => simp [Zie] at e2
 ·obtain ⟨a, rfl, q2⟩ := q2
  cases r2
  have fp : ∀ b ∈ [s1.heap.objs.size], Zr2 X pins H2 b := fun b hb => by
   have e : b = s1.heap.objs.size := by simpa using hb
   subst e
   exact I2.fpOk (Nat.le_refl _) (I2.hok.fresh (Nat.le_refl _))
  rcases q2 with ⟨⟨xs, hq⟩, q2⟩ | ⟨⟨xs, hq⟩, q2⟩
  ·obtain ⟨its, rv, p, hz⟩ := I2.list hq
   exact wpAny_pyIter_list p.isList ⟨s1.heap.objs.size, [s1.heap.objs.size], _, _, H2, rfl, I2.kept (t' := s1.toks) fun b o e => Heap.get?_push_of_some _ e, Zqa a _, ⟨_, Heap.get?_push_size _ rfl, rfl, rfl⟩, fp, q2⟩
  ·obtain ⟨its, rv, p, hz⟩ := I2.tuple hq
   exact wpAny_pyIter_tuple (show s1.heap.IsTuple a its.toArray from p) ⟨s1.heap.objs.size, [s1.heap.objs.size], _, _, H2, rfl, I2.kept (t' := s1.toks) fun b o e => Heap.get?_push_of_some _ e, Zoe a _, ⟨_, Heap.get?_push_size _ rfl, rfl, rfl⟩, fp, q2⟩
end
theorem paf_c {X : Cx} {e : Expr} {es : List Expr} {f : EF} {g : AF} (ha : PEf X e f) (hr : PAf X es g) (hs : Znu e = true) : PAf X (e :: es) (Zaa f g) := Zfu ha hr (Zat hs)
noncomputable def Yao (F : FF) (K : PySem.W.Frag) : Sp := spF K 1 F
theorem Zqf {F : FF} (h : ∀ ns : List Int, ns.length ≤ 63 -> ∃ Hd', F [.fl (ns.map .int)] [] = some (.bl true, Hd')) :
  ∀ (K : PySem.W.Frag) (H : Hp) (a : Addr) (ns : List Int), ns.length ≤ 63 -> Zys H -> SqL K H a (ns.map V.int) -> Yao F K [.ref a] H (fun v _ => v = .bl true) fun _ _ _ => False := by
 intro K H a ns hl hO hS
 obtain ⟨Hd', e⟩ := h ns hl
 have fz : FzL K H a (ns.map V.int) := by
  rcases hS with (h | h) | h
  ·rcases hO a with z | ⟨o, xs, z⟩
   ·rw [h] at z; cases z
   ·rw [h] at z; cases z
  ·exact .inl h
  ·exact .inr h
 have P : Paired (Rep K H []) (ns.map D.int) (ns.map V.int) := by
  generalize ns = ks
  induction ks with
  | nil => exact .nil
  | cons k ks ih => exact .cons (by simp) ih
 refine ⟨[], [.fl (ns.map .int)], [], .bl true, Hd', rfl, ⟨rfl, List.nodup_nil, fun n a o h1 h2 => by simp at h1⟩, .cons (Zfw.mpr ⟨a, _, rfl, fz, P⟩) .nil, e, fun v H' ι' l h r => by simpa using r⟩
variable {X : Cx}
noncomputable def Zj3 (x : PyData) : Bool := x.canLay0 && x.showable && decide (x.depth ≤ 30) && decide (x.shown.length ≤ sizeLine)
noncomputable def Zot : FF := fun ds H => match ds with
 | [d] => (toP H 30 d).bind fun x => if Zj3 x = true then some (.str x.shown, H) else none
 | _ => none
theorem Zi5 {k : Nat} (hr0 : Room k X.A) : Zg2 X (.builtin "repr") Zot := by
 rintro pins s σ H xs us Q I rv ⟨ι, ds, Hd, d, Hd', hr, P, e, q⟩
 unfold Zot at e
 split at e
 ·rename_i d0
  obtain ⟨v, rfl, r⟩ := Zj5 P
  obtain ⟨x, e1, e⟩ := Zo e
  split at e
  ·rename_i hc
   obtain ⟨rfl, rfl⟩ := Prod.mk.inj (Option.some.inj e)
   simp only [Zj3, Bool.and_eq_true, decide_eq_true_eq] at hc
   obtain ⟨⟨⟨c1, c2⟩, c3⟩, c4⟩ := hc
   cases rv with
   | cons rx rv =>
    cases rv
    rename_i u
    obtain ⟨as, ra⟩ := Zbr I hr _ _ e1 r rx
    have fin : ∀ h' t tk, (∀ b o, s.heap.get? b = some o -> h'.get? b = some o) -> EP X pins σ Q (.str x.shown t) { s with heap := h', toks := tk } := fun h' t tk k => ⟨.str x.shown, H, I.kept k, ⟨t, rfl⟩, q _ H ι Le.refl hr (by simp)⟩
    have un : X.A.units + 64 < cLine := hr0.units
    have byRef : ∀ a, u = .ref a → wpAny (model X.prog X.w) X.A (call (.builtin "repr") [u]) (EP X pins σ Q) X.xe s := fun a ea => by
     subst ea
     exact repr_of_reads' ra c2 (PyData.noDict_hsm (PyData.hasDict_of_canLay _ c1)) hr0.gd (by omega) (fun _ _ z => z) (fun h' t tk k => fin h' t tk k) c4
    cases ra with
    | none => exact PySem.P.repr_of_none (fin s.heap s.toks (s.toks + 1) fun _ _ z => z)
    | bool b => exact PySem.P.repr_of_bool (fin s.heap s.toks (s.toks + 1) fun _ _ z => z)
    | int i t => exact PySem.P.repr_of_int (by simpa [PyData.showable] using c2) (fin s.heap s.toks (s.toks + 1) fun _ _ z => z)
    | str z t => exact PySem.P.repr_of_str (fin s.heap s.toks (s.toks + 1) fun _ _ z => z) c4
    | list _ _ _ _ => exact byRef _ rfl
    | tuple _ _ _ _ => exact byRef _ rfl
    | dict _ _ _ _ => exact byRef _ rfl
  ·cases e
 ·cases e
end DL
namespace HT
open PySem PySem.Spec PyProof.Rows
section
variable {prog : Program} {w : World} {A : Around} {E : Value -> Shared -> Prop} {s : Shared}
theorem Zgz {sl : Addr} {vk : Value} {n : Nat} {Q : Int × Int × Nat -> Shared -> Prop} (hs : s.heap.IsSliceOf sl .none .none vk) (pk : IsPart vk (some (-1)))
  (h : Q ((n : Int) - 1, -1, n) s) : wpAny (model prog w) A (Builtin.Slice.sliceApplied (.ref sl) (pure (n : Int))) Q E s := by
 obtain ⟨os, hos, hcs, hds⟩ := id hs
 unfold Builtin.Slice.sliceApplied Builtin.Slice.sliceFields
 refine wpAny_bind (wpAny_bind (wpAny_field hos hds (x := .none) rfl (wpAny_bind (wpAny_field hos hds (x := .none) rfl (wpAny_bind (wpAny_field hos hds (x := vk) rfl (wpAny_pure ?_)))))))
 refine wpAny_bind (Zgf pk ?_)
 show wpAny _ _ (if ((-1 : Int) == 0) = true then _ else _) _ _ s
 rw [if_neg (by decide)]
 refine wpAny_bind (slicePart_none (wpAny_bind (slicePart_none (wpAny_bind (wpAny_pure ?_)))))
 show wpAny _ _ (pure ((n : Int) - 1, (-1 : Int), Builtin.Slice.slicePlaces ((n : Int) - 1) (-1) (-1))) _ _ s
 have e : Builtin.Slice.slicePlaces ((n : Int) - 1) (-1) (-1) = n := by
  unfold Builtin.Slice.slicePlaces
  rw [if_neg (by decide)]
  have : (- -1 : Int) = 1 := by decide
  rw [this]
  split
  ·rw [Int.ediv_one]; omega
  ·omega
 rw [e]
 exact wpAny_pure h
theorem Zur (xs : Array Value) : ((List.range xs.size).filterMap fun (m : Nat) => xs[((xs.size : Int) - 1 + (m : Int) * (-1)).toNat]?).toArray = xs.toList.reverse.toArray := by
 have e : (fun (m : Nat) => xs[((xs.size : Int) - 1 + (m : Int) * (-1)).toNat]?) = (fun k => xs[k]?) ∘ (fun m => xs.size - 1 - m) := by
  funext m
  have : ((xs.size : Int) - 1 + (m : Int) * (-1)).toNat = xs.size - 1 - m := by omega
  simp only [Function.comp, this]
 rw [e, ← List.filterMap_map, PySem.W.krv_range, List.filterMap_reverse, PySem.W.krv_all]
theorem getItem_tuple_rev {t sl : Addr} {items : Array Value} {vk : Value} {Q : Value -> Shared -> Prop} (ht : IsTup s.heap t items) (hs : s.heap.IsSliceOf sl .none .none vk) (pk : IsPart vk (some (-1)))
  (h : Q (.ref s.heap.objs.size) { s with heap := s.heap.push { cls := .type "tuple", data := .seq items.toList.reverse.toArray } })
  (hsz : items.size ≤ sizeLine) : wpAny (model prog w) A (getItem (.ref t) (.ref sl)) Q E s := by
 have htake : sizeOk (.seq items.toList.reverse.toArray) := by
  show items.toList.reverse.toArray.size ≤ sizeLine
  rw [List.size_toArray, List.length_reverse, Array.length_toList]
  exact hsz
 obtain ⟨os, hos, hcs, hds⟩ := id hs
 have hTs : s.TypeIs (.ref sl) "slice" := ⟨os, hos, hcs⟩
 unfold getItem
 try with_reducible refine wpAny_holding ?_
 first | refine wpAny_bind (wpAny_pure ?_) | skip
 refine wpAny_bind (wpAny_sequenceKey ht.typeIs (by decide) ?_)
 refine wpAny_bind (wpAny_callSpecial?_slot (name := Str.ofString "__getitem__") ht.typeIs PyProof.Rows.slot_tuple_getitem
  (wpAny_call_entry PyProof.Rows.slot_tuple_getitem ht.typeIs entry_tuple_getitem ?_ (args_tuple_getitem _ _)))
 show wpAny _ _ (Builtin.Tuple.tupleItemsOf (.ref t) >>= _) _ _ s
 refine wpAny_bind (tupleItemsOf_ ht ?_)
 refine wpAny_bind (wpAny_typeOf hTs ?_)
 rw [if_pos (by decide)]
 refine wpAny_bind (Zgz hs pk ?_)
 show wpAny _ _ (if (((items.size : Int) - 1 == 0 && (-1 : Int) == 1 && items.size == items.size)) = true then _ else _) _ _ s
 have hno : ¬ ((((items.size : Int) - 1 == 0 && (-1 : Int) == 1 && items.size == items.size)) = true) := by simp
 rw [if_neg hno, Zur]
 first
  | exact wpAny_bind (m := Builtin.Tuple.tupleExact _) (wpAny_newObj_type (wpAny_pure ⟨_, rfl, wpAny_pure h⟩) htake)
  | exact wpAny_bind (m := Builtin.Tuple.tupleExact _) (wpAny_newObj_type (wpAny_bind (wpAny_pure (wpAny_pure ⟨_, rfl, wpAny_pure h⟩))) htake)
  | exact wpAny_bind (wpAny_bind (m := Builtin.Tuple.tupleExact _) (wpAny_newObj_type (wpAny_pure (wpAny_pure ⟨_, rfl, wpAny_pure h⟩)) htake))
  | exact wpAny_bind (wpAny_bind (m := Builtin.Tuple.tupleExact _) (wpAny_newObj_type (wpAny_pure ⟨_, rfl, wpAny_pure h⟩) htake))
end
end HT
namespace DL
open PySem PySem.Spec PyProof.Rows L2
variable {X : Cx}
section
variable {a b c : Expr} {pos : Pos}
noncomputable def eCh (g g' : F2) (fa fb fc : EF) : EF := fun σ H => (fa σ H).bind fun p => (fb σ p.2).bind fun q => (g p.1 q.1 q.2).bind fun z => (blD z.1).bind fun k => if k = true then (fc σ z.2).bind fun w => g' q.1 w.1 w.2 else some (.bl false, z.2)
theorem Zti {fa fb fc : EF} {g g' : F2} {σ : L2.St} {H : Hp} {Q : VK} {K : PySem.W.Frag} (h : rdE K (eCh g g' fa fb fc) σ H Q) : Zvb (rd2 K g) (rd2 K g') (rdE K fa) (rdE K fb) (rdE K fc) σ H Q := by
 obtain ⟨ι, σd, Hd, d, Hd', s, hr, e, q⟩ := h
 obtain ⟨⟨x, H1⟩, e1, e⟩ := Zo e
 obtain ⟨⟨y, H2⟩, e2, e⟩ := Zo e
 obtain ⟨⟨z, H3⟩, e3, e⟩ := Zo e
 obtain ⟨k, e4, e⟩ := Zo e
 refine ⟨ι, σd, Hd, x, H1, s, hr, e1, fun v1 H1' ι1 l1 h1 r1 => ⟨ι1, σd, H1, y, H2, s.mono l1, h1, e2, fun v2 H2' ι2 l2 h2 r2 => ⟨ι2, x, y, H2, z, H3, h2, r1.mono l2, r2, e3, fun v3 H3' ι3 l3 h3 r3 => ⟨k, Zjo e4 r3, ?_⟩⟩⟩⟩
 cases k with
 | true =>
  rw [if_pos rfl] at e ⊢
  obtain ⟨⟨u, H4⟩, e5, e⟩ := Zo e
  exact ⟨ι3, σd, H3, u, H4, s.mono ((l1.trans l2).trans l3), h3, e5, fun v4 H4' ι4 l4 h4 r4 => ⟨ι4, y, u, H4, d, Hd', h4, r2.mono (l3.trans l4), r4, e, fun v H' ι' l h r => q v H' ι' ((((l1.trans l2).trans l3).trans l4).trans l) h r⟩⟩
 | false =>
  rw [if_neg (by simp)] at e ⊢
  obtain ⟨rfl, rfl⟩ := Prod.mk.inj (Option.some.inj e)
  exact q _ H3' ι3 ((l1.trans l2).trans l3) h3 (by simp)
theorem Zrq {op op' : CmpOp} {g g' : F2} {fa fb fc : EF} (ho : OpF X (compareOp op) g) (ho' : OpF X (compareOp op') g') (ha : PEf X a fa) (hb : PEf X b fb) (hc : PEf X c fc)
  (hm : lastMarks [op, op'] [b, c] = false) : PEf X (.Compare a [op, op'] [b, c] pos) (eCh g g' fa fb fc) :=
 PEi (Ztm ho ho' ha hb hc hm) fun _ _ _ h => Zti h
end
noncomputable def Gc (K : PySem.W.Frag) (mg : Str -> Option Value) (x : Str) (d : D) : Prop := ∃ u v, mg x = some u ∧ Zcn v u ∧ ∀ H ι, Rep K H ι d v
theorem Znx {x : Str} {d : D} {pos : Pos} (hg : Gl X x) (h : Gc X.K X.mg x d) (hd : (x == ("__debug__" : Str)) = false := by decide) : PEf X (.Name x pos) (eC d) := by
 obtain ⟨u, v, hm, r, rp⟩ := h
 exact Zo5 (Zmp (v := v) hg hm r hd) rp
theorem Yan {K : PySem.W.Frag} {h : Heap} {mg : Str -> Option Value} {x : Str} {i : Int} {t : Tok} (X : K.In h) (G : h.Ns mainGlobals mg) (a : PySem.W.nsIn K mainGlobals x = some (some (.int i t))) : Gc K mg x (.int i) :=
 ⟨_, .int i, PySem.W.mg_of X G a, ⟨t, rfl⟩, fun _ _ => by simp⟩
noncomputable def revD (x : D) (H : HD) : Option (D × HD) := match x with
 | .tup xs => mkT xs.reverse H
 | _ => none
noncomputable def eRv (fe : EF) : EF := fun σ H => (fe σ H).bind fun p => revD p.1 p.2
theorem Zwn {e st : Expr} {fe f : EF} {pos p2 : Pos} (he : PEf X e fe) (hst : PEf X st f) (hf : ∀ σ H, f σ H = some (.int (-1), H)) : PEf X (.Subscript e (.Slice none none (some st) p2) pos) (eRv fe) := by
 intro pins s σ H Q I h
 obtain ⟨ι, σd, Hd, d, Hd', sr, hr, e0, q⟩ := h
 obtain ⟨⟨x, H1⟩, ex, e0⟩ := Zo e0
 let P1 : VK := fun v1 H1' => ∃ ι1, Le X.K H ι H1' ι1 ∧ HRep X.K H1' ι1 H1 ∧ Rep X.K H1' ι1 x v1
 refine Subscript_ (thn (he pins s σ H P1 I ⟨ι, σd, Hd, x, H1, sr, hr, ex, fun v1 H1' ι1 l1 h1 r1 => ⟨ι1, l1, h1, r1⟩⟩) fun v s1 zz => ?_)
 obtain ⟨xv, H1', I1, rx, ι1, l1, h1, r1⟩ := zz
 let P2 : Option Int -> Hp -> Prop := fun o H2' => o = some (-1) ∧ ∃ ι2, Le X.K H ι H2' ι2 ∧ HRep X.K H2' ι2 H1 ∧ Rep X.K H2' ι2 x xv
 have hp : rdO X.K (Zb4 f) σ H1' P2 := ⟨ι1, σd, H1, some (-1), H1, sr.mono l1, h1, by unfold Zb4; rw [hf]; rfl, fun H2' ι2 l2 h2 => ⟨rfl, ι2, l1.trans l2, h2, r1.mono l2⟩⟩
 refine wpAny_Slice ?_
 rw [evalPart_none]
 refine wpAny_pure ?_
 refine wpAny_pure ?_
 refine thn (Zdp hst pins s1 σ H1' P2 I1 hp) fun vk s3 zz => ?_
 obtain ⟨o, H3, I3, pk, eo, ι3, l3, h3, r3⟩ := zz
 subst eo
 have I4 : Inv X pins σ H3 { s3 with heap := s3.heap.push { cls := .type "slice", data := .fields #[.none, .none, vk] } } := I3.kept (t' := s3.toks) fun b ob q => Heap.get?_push_of_some _ q
 cases x <;> simp only [revD] at e0 <;> try cases e0
 rename_i xs
 obtain ⟨a, vs, rfl, h, P⟩ := Za4.mp r3
 obtain ⟨its, rv, ht, hz⟩ := I4.tuple h
 cases rx
 obtain ⟨k1, k2⟩ := Zf6 h3 (Prd.reverse P) e0 (fun v H' ι' l h r => q v H' ι' (l3.trans l) h r)
 have hlen : its.toArray.size = vs.length := by rw [List.size_toArray]; exact rv.length.symm
 have hg : wpAny (model X.prog X.w) X.A (getItem (.ref a) (.ref s3.heap.objs.size)) (EP X pins σ Q) X.xe { s3 with heap := s3.heap.push { cls := .type "slice", data := .fields #[.none, .none, vk] } } := by
  refine HT.getItem_tuple_rev ht (Heap.IsSliceOf.new ..) pk ?_ (by rw [hlen]; exact hz)
  refine ⟨.ref _, _, I4.laid (t' := s3.toks) (o := .tup vs.reverse) (fun b ob q => Heap.get?_push_of_some _ q) (Nat.le_refl _) ?_, rfl, k2 _ (I4.hok.fresh (Nat.le_refl _))⟩
  exact ⟨k1, _, by simpa using rv.reverse, Zil.new _ _⟩
 show wpAny (model X.prog X.w) X.A (subscriptTail e (.Slice none none (some st) p2) (.ref a) (.ref s3.heap.objs.size)) (EP X pins σ Q) X.xe { s3 with heap := s3.heap.push { cls := .type "slice", data := .fields #[.none, .none, vk] } }
 exact tail_any (ops := [.ref a, .ref s3.heap.objs.size]) ht.typeIs PyProof.Rows.slot_tuple_getitem.lookup hg (by with_unfolding_all rfl)
variable {X : Cx}
noncomputable def Za3 (kvs : List (D × D)) (k : List Int) : Option D := (kvs.find? fun p => nk p.1 == some k).map (·.2)
noncomputable def Zi6 (kvs : List (D × D)) (kd : D) (k : List Int) (vd : D) : List (D × D) :=
 if (Za3 kvs k).isSome then kvs.map (fun p => if nk p.1 = some k then (p.1, vd) else p) else kvs ++ [(kd, vd)]
section
variable {K : PySem.W.Frag} {H : Hp} {ι : List Addr}
theorem Zhz {kvs : List (D × D)} {xs : List (List Int × Addr × Value)} (h : Paired (Zmr K H ι) kvs xs) (k : List Int) :
  (Za3 kvs k = none ∧ atKey xs k = none) ∨ ∃ vd b u v, Za3 kvs k = some vd ∧ atKey xs k = some (b, u) ∧ Zcn v u ∧ Rep K H ι vd v := by
 unfold Za3 atKey
 induction h with
 | nil => exact .inl ⟨rfl, rfl⟩
 | @cons p x ps ys r t ih =>
  obtain ⟨r1, r2, v, r3, r4⟩ := r
  by_cases hk : x.1 = k
  ·have e1 : (nk p.1 == some k) = true := by rw [r1, hk]; simp
   refine .inr ⟨p.2, x.2.1, x.2.2, v, ?_, ?_, r3, r4⟩
   ·rw [List.find?_cons]; simp only [e1]; rfl
   ·rw [List.find?_cons]; simp only [hk, decide_true]; rfl
  ·have e1 : ¬ (nk p.1 == some k) = true := by rw [r1]; simpa using hk
   have e1' : (nk p.1 == some k) = false := by simpa using e1
   have e2' : decide (x.1 = k) = false := decide_eq_false hk
   rw [List.find?_cons, List.find?_cons]
   simp only [e1', e2']
   exact ih
theorem Znf {kvs : List (D × D)} {xs : List (List Int × Addr × Value)} {kd vd : D} {k : List Int} {b : Addr} {u : Value} {v : V} (h : Paired (Zmr K H ι) kvs xs) (h1 : nk kd = some k) (h2 : Rep K H ι kd (.ref b)) (rv : Zcn v u) (r : Rep K H ι vd v) :
  Paired (Zmr K H ι) (Zi6 kvs kd k vd) (storedH xs k b u) := by
 have all : ∀ {ls : List (D × D)} {ys : List (List Int × Addr × Value)}, Paired (Zmr K H ι) ls ys -> Paired (Zmr K H ι) (ls.map (fun p => if nk p.1 = some k then (p.1, vd) else p)) (ys.map (putAt k u)) := by
  intro ls ys q
  induction q with
  | nil => exact .nil
  | @cons p x ps zs r' t ih =>
   refine .cons ?_ ih
   obtain ⟨r1, r2, r3⟩ := r'
   unfold putAt
   by_cases hk : x.1 = k
   ·have e : nk p.1 = some k := by rw [r1, hk]
    show Zmr K H ι (if nk p.1 = some k then (p.1, vd) else p) (if x.1 = k then (x.1, x.2.1, u) else x)
    rw [if_pos hk, if_pos e]
    exact ⟨r1, r2, v, rv, r⟩
   ·have e : ¬ nk p.1 = some k := by rw [r1]; simpa using hk
    show Zmr K H ι (if nk p.1 = some k then (p.1, vd) else p) (if x.1 = k then (x.1, x.2.1, u) else x)
    rw [if_neg hk, if_neg e]
    exact ⟨r1, r2, r3⟩
 unfold Zi6 storedH
 rcases Zhz h k with ⟨e1, e2⟩ | ⟨_, _, _, _, e1, e2, _⟩
 ·rw [e1, e2]
  exact Prd.append h (.cons ⟨h1, h2, v, rv, r⟩ .nil)
 ·rw [e1, e2]
  exact all h
theorem Zsn (kvs : List (D × D)) (kd : D) (k : List Int) (vd : D) : (Zi6 kvs kd k vd).length ≤ kvs.length + 1 := by
 unfold Zi6; split <;> simp
end
section
variable {pins : List (Addr × Obj)} {σ : L2.St} {H : Hp} {s : Shared} {ι : List Addr} {Hd : HD}
theorem Zzs {d : D} {v : V} {u : Value} {k : Int} {K : PySem.W.Frag} (e : nkOf d = some k) (r : Rep K H ι d v) (q : Zcn v u) : Zmd k u = true := by
 cases d with
 | bl b => cases e; simp at r; subst r; cases q; simp [Zmd, Zps]
 | int i => cases e; simp at r; subst r; obtain ⟨t, rfl⟩ := q; simp [Zmd, Zps]
 | _ => cases e
theorem Zkt {P : Program} {w : World} {K : PySem.W.Frag} : ∀ {ds : List D} {vs : List V} {us : List Value} {ks : List Int}, Zj4 ds = some ks -> Paired (Rep K H ι) ds vs -> Za8 vs us -> ItemsAre (Zbo P w) ks us
 | [], vs, us, ks, e, p, q => by cases e; cases p; cases q; exact .nil
 | d :: ds, vs, us, ks, e, p, q => by
  cases p with
  | cons p1 p2 =>
   cases q with
   | cons q1 q2 =>
    simp only [Zj4] at e
    obtain ⟨k, e1, e⟩ := Zo e
    obtain ⟨r, e2, rfl⟩ := Zm e
    exact .cons (Zzs e1 p1 q1) (Zkt e2 p2 q2)
theorem Zi2 (I : Inv X pins σ H s) {d : D} {k : List Int} {b : Addr} (e : nk d = some k) (r : Rep X.K H ι d (.ref b)) : (tupleKind (Zbo X.prog X.w)).is s.heap k b := by
 cases d <;> simp only [nk] at e <;> try cases e
 rename_i ds
 obtain ⟨a, vs, ea, h, P⟩ := Za4.mp r
 cases ea
 obtain ⟨its, rv, ht, hz⟩ := I.tuple h
 obtain ⟨o, h1, h2, n, h3⟩ := ht
 exact ⟨o, its.toArray, n, h1, h2, h3, by simpa using Zkt e P rv⟩
theorem Zhf (I : Inv X pins σ H s) {a : Addr} {kvs : List (D × D)} {fz : Bool} (h : Zpa X.K H ι a (.dic kvs fz)) : (a == sysModules) = false ∧ kvs.length ≤ sizeLine ∧ ∃ xs, (if fz = true then ∃ o, H a = some (.frz o (.ext (Zca a xs))) else H a = some (.ext (Zca a xs))) ∧ Paired (Zmr X.K H ι) kvs xs ∧ s.heap.DictOfH (tupleKind (Zbo X.prog X.w)) a xs := by
 obtain ⟨h1, h2, xs, e, p⟩ := h
 have rd : Rd H a (.ext (Zca a xs)) := by
  cases fz with
  | true => rw [if_pos rfl] at e; exact .inr e
  | false => rw [if_neg (by simp)] at e; exact .inl e
 obtain ⟨⟨o, es, ep, g1, g2, g3, g4, g5⟩, _⟩ := (show Zdb X.prog X.w H s.heap a (.ext (Zca a xs)) from rd.ok I.hok)
 refine ⟨h1, h2, xs, e, p, o, es, ep, g1, g2, g3, g4, ?_, g5⟩
 have all : ∀ {l : List (D × D)} {m : List (List Int × Addr × Value)}, Paired (Zmr X.K H ι) l m -> ∀ x ∈ m, (tupleKind (Zbo X.prog X.w)).is s.heap x.1 x.2.1 := by
  intro l m q
  induction q with
  | nil => intro x hx; exact nomatch hx
  | @cons p x ps qs hq t ih =>
   intro y hy
   rcases List.mem_cons.mp hy with e | hy
   ·subst e
    exact Zi2 I hq.1 hq.2.1
   ·exact ih y hy
 exact all p
end
noncomputable def Zs9 (x : D) (H : HD) : Option (List (D × D)) := match x with
 | .ref n => match H[n]? with
  | some (.dic kvs _) => some kvs
  | _ => none
 | _ => none
theorem Zh5 {x : D} {Hd : HD} {kvs : List (D × D)} (e : Zs9 x Hd = some kvs) : ∃ n fz, x = .ref n ∧ Hd[n]? = some (.dic kvs fz) := by
 cases x <;> simp only [Zs9] at e <;> try cases e
 rename_i n
 split at e
 ·rename_i fz h; cases e; exact ⟨n, fz, rfl, h⟩
 ·cases e
noncomputable def Zf7 : F2 := fun x y H => (Zs9 x H).bind fun kvs => (nk y).bind fun k => (Za3 kvs k).map fun v => (v, H)
theorem Zk3 {K : PySem.W.Frag} {H : Hp} {ι : List Addr} {d : D} {k : List Int} {v : V} (e : nk d = some k) (r : Rep K H ι d v) : ∃ b, v = .ref b := by
 cases d <;> simp only [nk] at e <;> try cases e
 obtain ⟨a, vs, rfl, _⟩ := Za4.mp r
 exact ⟨a, rfl⟩
theorem Zpg (hu : X.A.units + 64 < cLine) : IxF X Zf7 := by
 rintro va sl pins s σ H x y v u Q I rx ry ⟨ι, dx, dy, Hd, d, Hd', hr, r1, r2, e, q⟩ hs
 obtain ⟨kvs, e1, e⟩ := Zo e
 obtain ⟨k, e2, e⟩ := Zo e
 obtain ⟨vd, e3, e⟩ := Zm e
 obtain ⟨rfl, rfl⟩ := Prod.mk.inj e
 obtain ⟨n, fz, rfl, hn⟩ := Zh5 e1
 obtain ⟨a, rfl, ha⟩ := Zak.mp r1
 obtain ⟨b, rfl⟩ := Zk3 e2 r2
 cases rx
 cases ry
 obtain ⟨h1, h2, xs, h3, P, dd⟩ := Zhf I (hr.obj n a _ ha hn)
 have key := Zi2 I e2 r2
 rcases Zhz P k with ⟨z, _⟩ | ⟨vd', b', u', v', z1, z2, z3, z4⟩
 ·rw [z] at e3; cases e3
 ·rw [z1] at e3; cases e3
  have ty : s.TypeIs (.ref a) "dict" := dd.typeIs
  refine tail_any (ops := [.ref a, .ref b]) ty PySem.F.slot_dict_getitem.lookup (wpAny_getItem_heap (knd := tupleKind (Zbo X.prog X.w)) (tupleKind_room_in1 (by omega)) key dd z2 ?_) hs
  exact ⟨v', H, I.tok _, z3, q _ H ι Le.refl hr z4⟩
noncomputable def dinD : F2 := fun x y H => (Zs9 y H).bind fun kvs => (nk x).map fun k => (.bl (Za3 kvs k).isSome, H)
theorem dinf (hu : X.A.units + 64 < cLine) : OpF X (compareOp .In) dinD := by
 rintro pins s σ H x y v u Q I rx ry ⟨ι, dx, dy, Hd, d, Hd', hr, r1, r2, e, q⟩
 obtain ⟨kvs, e1, e⟩ := Zo e
 obtain ⟨k, e2, e⟩ := Zm e
 obtain ⟨rfl, rfl⟩ := Prod.mk.inj e
 obtain ⟨n, fz, rfl, hn⟩ := Zh5 e1
 obtain ⟨a, rfl, ha⟩ := Zak.mp r2
 obtain ⟨b, rfl⟩ := Zk3 e2 r1
 cases rx
 cases ry
 obtain ⟨h1, h2, xs, h3, P, dd⟩ := Zhf I (hr.obj n a _ ha hn)
 refine wpAny_in_heap (knd := tupleKind (Zbo X.prog X.w)) (tupleKind_room_in1 (by omega)) (Zi2 I e2 r1) h1 dd ?_
 have e3 : (atKey xs k).isSome = (Za3 kvs k).isSome := by
  rcases Zhz P k with ⟨z1, z2⟩ | ⟨_, _, _, _, z1, z2, _⟩ <;> rw [z1, z2] <;> rfl
 rw [e3]
 exact ⟨.bl _, H, I.tok _, rfl, q _ H ι Le.refl hr (by simp)⟩
noncomputable def eDN : EF := fun _ H => some (.ref H.length, H ++ [.dic [] false])
theorem Zj7 {pos : Pos} : PEf X (.Dict [] [] pos) eDN := by
 rintro pins s σ H Q I ⟨ι, σd, Hd, d, Hd', sr, hr, e, q⟩
 cases e
 have hb : sysModules < s.heap.objs.size := Nat.lt_trans (by decide) (show mainGlobals < s.heap.objs.size from (I.mod.glob.keeps I.bk).lt)
 have hp := I.hok.fresh (Nat.le_refl s.heap.objs.size)
 have ok : Zdb X.prog X.w (upd H s.heap.objs.size (.ext (Zca s.heap.objs.size []))) (s.heap.push { cls := .type "dict", data := .dict #[] }) s.heap.objs.size (.ext (Zca s.heap.objs.size [])) :=
  ⟨⟨_, #[], 0, Heap.get?_push_size _ rfl, ⟨rfl, rfl, rfl⟩, rfl, rfl, List.nodup_nil⟩, ⟨_, Heap.get?_push_size _ rfl⟩, fun h1 h2 d k => Zca.keep d k⟩
 refine wpAny_Dict_empty ⟨.ref s.heap.objs.size, _, I.laid (a := s.heap.objs.size) (o := .ext (Zca s.heap.objs.size [])) (t' := s.toks) (fun _ _ q => Heap.get?_push_of_some _ q) (Nat.le_refl _) ok, rfl, ?_⟩
 have hl : ι.length = Hd.length := hr.len
 refine q _ _ (ι ++ [s.heap.objs.size]) (Le.fresh1 hp _) (hr.new hp ⟨beq_eq_false_iff_ne.mpr (Ne.symm (Nat.ne_of_lt hb)), Nat.zero_le _, [], by rw [if_neg (by simp)]; exact Zaq, .nil⟩) (Zak.mpr ⟨_, rfl, by rw [← hl]; simp⟩)
noncomputable def Zod : Zvm := fun o i v H => match o with
 | .ref n => match H[n]? with
  | some (.dic kvs false) => (nk i).bind fun k => if kvs.length < sizeLine then some (H.set n (.dic (Zi6 kvs i k v) false)) else none
  | _ => none
 | _ => none
theorem Zli {xs : List (List Int × Addr × Value)} {k : List Int} {b : Addr} {u : Value} : (storedH xs k b u).length ≤ xs.length + 1 := by
 unfold storedH; split <;> simp
theorem Zkr {pins : List (Addr × Obj)} {σ : L2.St} {H : Hp} {s : Shared} {a : Addr} {xs xs' : List (List Int × Addr × Value)} {h' : Heap} {t' : Nat} (I : Inv X pins σ H s) (h3 : H a = some (.ext (Zca a xs))) (dd : h'.DictOfH (tupleKind (Zbo X.prog X.w)) a xs') (hs : Heap.SameBut a s.heap h') :
  Inv X pins σ (upd H a (.ext (Zca a xs'))) { s with heap := h', toks := t' } := by
 obtain ⟨o, es, ep, g1, g2, g3, g4, _, g5⟩ := dd
 have ok : Zdb X.prog X.w (upd H a (.ext (Zca a xs'))) h' a (.ext (Zca a xs')) := ⟨⟨o, es, ep, g1, g2, g3, g4, g5⟩, ⟨o, g1⟩, fun h1 h2 d k => Zca.keep d k⟩
 exact I.write (x := a) (e := a) (by rw [h3]; exact True.intro) (.inl rfl) (fun b q hb z => (hs.2 b hb).trans z) ⟨o, g1⟩ ok
theorem Zr7 {H : Hp} {ι : List Addr} {Hd : HD} {n : Nat} {a : Addr} {kvs : List (D × D)} {xs : List (List Int × Addr × Value)} {kd vd : D} {k : List Int} {b : Addr} {u : Value} {v : V} (hr : HRep X.K H ι Hd) (ha : ι[n]? = some a) (h1 : (a == sysModules) = false) (hl : kvs.length < sizeLine) (h3 : H a = some (.ext (Zca a xs))) (P : Paired (Zmr X.K H ι) kvs xs) (e2 : nk kd = some k) (r2 : Rep X.K H ι kd (.ref b)) (rv : Zcn v u) (r3 : Rep X.K H ι vd v) :
  Le X.K H ι (upd H a (.ext (Zca a (storedH xs k b u)))) ι ∧ HRep X.K (upd H a (.ext (Zca a (storedH xs k b u)))) ι (Hd.set n (.dic (Zi6 kvs kd k vd) false)) := by
 have L : Le X.K H ι (upd H a (.ext (Zca a (storedH xs k b u)))) ι := Le.upd (List.mem_of_getElem? ha) h3 trivial _
 refine ⟨L, hr.upd ha h3 trivial ⟨h1, ?_, _, by rw [if_neg (by simp)]; exact Zaq, ?_⟩⟩
 ·have := Zsn kvs kd k vd; omega
 ·refine Znf (Prd.imp P fun p x _ z => ⟨z.1, z.2.1.mono L, let ⟨v, z1, z2⟩ := z.2.2; ⟨v, z1, z2.mono L⟩⟩) e2 (r2.mono L) rv (r3.mono L)
theorem dsetf (hu : X.A.units + 64 < cLine) : Zvp X Zod := by
 rintro pins s σ H o i v ov iv u Q I ro ri rv ⟨ι, od, id, vd, Hd, Hd', hr, r1, r2, r3, e, q⟩
 cases od <;> simp only [Zod] at e <;> try cases e
 rename_i n
 split at e
 ·rename_i kvs hn
  obtain ⟨k, e2, e⟩ := Zo e
  split at e
  ·rename_i hl
   cases e
   obtain ⟨a, rfl, ha⟩ := Zak.mp r1
   obtain ⟨b, rfl⟩ := Zk3 e2 r2
   cases ro
   cases ri
   obtain ⟨h1, h2, xs, h3, P, dd⟩ := Zhf I (hr.obj n a _ ha hn)
   rw [if_neg (by simp)] at h3
   have hz : xs.length ≤ sizeLine := by rw [← Prd.len P]; exact h2
   refine wpAny_setItem_heap (knd := tupleKind (Zbo X.prog X.w)) (hsz := hz) (tupleKind_room_in1 (by omega)) (Zi2 I e2 r2) dd fun h' dd' hs => ?_
   obtain ⟨L, hr'⟩ := Zr7 hr ha h1 hl h3 P e2 r2 rv r3
   exact ⟨_, Zkr I h3 dd' hs, q _ ι L hr'⟩
  ·cases e
 ·cases e
section
variable {prog : Program} {w : World} {kd : HeapKind prog w (List Int)} {A : Around} {E : Value -> Shared -> Prop} {s : Shared}
theorem Zmj {d b : Addr} {xs : List (List Int × Addr × Value)} {k : List Int} {v : Value} {Q : Value -> Shared -> Prop} (rm : kd.room A) (key : kd.is s.heap k b) (dm : s.heap.DictOfH kd d xs) (sz : xs.length ≤ sizeLine)
  (old : ∀ p, atKey xs k = some p -> Q p.2 { s with toks := s.toks + kd.draws k })
  (new : atKey xs k = none -> ∀ h2, h2.DictOfH kd d (storedH xs k b v) -> Heap.SameBut d s.heap h2 -> Q v { s with heap := h2, toks := s.toks + kd.draws k }) :
  wpAny (model prog w) A (dictSetDefault d (.ref b) v) Q E s := by
 obtain ⟨ob, es, ep, g1, g2, g3, g4, g5, g6⟩ := dm
 unfold dictSetDefault
 refine wpAny_holding (wpAny_bind (kd.pyHash rm key (wpAny_bind (wpAny_dictFind_heap (s := { s with toks := s.toks + kd.draws k }) rm key g1 g3 g4 g5 g6 (fun no => ?_) (fun j p hj => ?_)))))
 ·have em := atKey_none_of_get no
  have sm : ∀ f, Heap.SameBut d s.heap (s.heap.update d f) := fun f => Heap.SameBut.update ..
  have len := size_of_entries g4
  refine wpAny_bind (wpAny_rule (wpAny_bind (wpAny_updateDictKeys (s := { s with toks := s.toks + kd.draws k }) (hz := by omega) g1 g3 (wpAny_pure (new em _ ?_ (sm _))))))
  refine ⟨_, _, ep + 1, Heap.get?_update_self _ g1 (Obj.isFreed_of_dict (Obj.data_mapDictKeys g3 _)), g2.mapDictKeys _, Obj.data_mapDictKeys g3 _, ?_⟩
  rw [storedH_new em]
  refine ⟨by simp [g4, entryOfKey], fun x hx => ?_, ?_⟩
  ·have one : kd.is s.heap x.1 x.2.1 := by
    rcases List.mem_append.mp hx with hx | hx
    ·exact g5 x hx
    ·rw [List.mem_singleton.mp hx]; exact key
   exact kd.keeps one g1 g3 (sm _)
  ·have nm := not_mem_keys_of_get no
   rw [List.map_append, List.nodup_append]
   refine ⟨g6, by simp, fun x hx y hy e => nm ?_⟩
   have yk : y = k := by simpa using hy
   rw [← yk, ← e]
   exact hx
 ·have ae := entry_at g4 j
  rw [hj] at ae
  refine wpAny_bind (wpAny_dictEntries (s := { s with toks := s.toks + kd.draws k }) g1 g3 ?_)
  rw [ae]
  exact wpAny_bind (wpAny_rule (wpAny_pure (old p (atKey_of_get g6 hj))))
end
noncomputable def Zio (x : D) (ds : List D) (H : HD) : Option (D × HD) := match x, ds with
 | .ref n, [y, v] => match H[n]? with
  | some (.dic kvs false) => (nk y).bind fun k => if kvs.length < sizeLine then match Za3 kvs k with
   | some z => some (z, H)
   | none => some (v, H.set n (.dic (Zi6 kvs y k v) false))
   else none
  | _ => none
 | _, _ => none
theorem Zxu (hu : X.A.units + 64 < cLine) : MtF X "dict.setdefault" Zio := by
 rintro pins s σ H x xs v us Q I rx rv ⟨ι, dx, ds, Hd, d, Hd', hr, r1, P1, e, q⟩
 unfold Zio at e
 split at e
 ·rename_i n y vd
  split at e
  ·rename_i kvs hn
   obtain ⟨k, e2, e⟩ := Zo e
   split at e
   ·rename_i hl
    obtain ⟨a, rfl, ha⟩ := Zak.mp r1
    obtain ⟨v1, v2, rfl, ry, rd⟩ := prd2 P1
    obtain ⟨b, rfl⟩ := Zk3 e2 ry
    cases rx
    cases rv with
    | cons q1 rv =>
     cases rv with
     | cons q2 rv =>
      cases rv
      cases q1
      rename_i u2
      obtain ⟨h1, h2, ys, h3, P, dd⟩ := Zhf I (hr.obj n a _ ha hn)
      rw [if_neg (by simp)] at h3
      have hz : ys.length ≤ sizeLine := by rw [← Prd.len P]; exact h2
      have ty : s.TypeIs (.ref a) "dict" := dd.typeIs
      have body : wpAny (model X.prog X.w) X.A.in1 (Builtin.«dict.setdefault» ⟨[.ref a, .ref b, u2], []⟩) (fun fin s' => ∃ r, fin = .done (.ret r) ∧ EP X pins σ Q r s') X.xe s := by
       unfold Builtin.«dict.setdefault» Builtin.Dict.keyAndDefault
       refine wpAny_bind (wpAny_bind (wpAny_notOrdered_dict ty (wpAny_pure ?_)))
       show wpAny _ _ (if (a == sysModules) = true then _ else (dictSetDefault a (.ref b) u2 >>= _)) _ _ s
       rw [if_neg (by rw [h1]; decide)]
       refine wpAny_bind (Zmj (kd := tupleKind (Zbo X.prog X.w)) (show (tupleKind (Zbo X.prog X.w)).room X.A.in1 from (by show X.A.units + 1 < cLine; omega)) (Zi2 I e2 ry) dd hz (fun p hp => ?_) (fun hp h2' dd' hs => ?_))
       ·rcases Zhz P k with ⟨_, z⟩ | ⟨vd', b', u', v', z1, z2, z3, z4⟩
        ·rw [z] at hp; cases hp
        ·rw [z2] at hp; cases hp
         rw [z1] at e; cases e
         exact wpAny_pure ⟨_, rfl, v', H, I.tok _, z3, q _ H ι Le.refl hr z4⟩
       ·rcases Zhz P k with ⟨z, _⟩ | ⟨vd', b', u', v', z1, z2, z3, z4⟩
        ·rw [z] at e; cases e
         obtain ⟨L, hr'⟩ := Zr7 hr ha h1 hl h3 P e2 ry q2 rd
         exact wpAny_pure ⟨_, rfl, v2, _, Zkr I h3 dd' hs, q2, q _ _ ι L hr' (rd.mono L)⟩
        ·rw [z2] at hp; cases hp
      exact wpAny_call_entry PySem.F.slot_dict_setdefault ty PySem.F.entry_dict_setdefault body (PySem.F.args_dict_setdefault_3 _ _ _)
   ·cases e
  ·cases e
 ·cases e
noncomputable def Zml : D -> HD -> Bool
 | .ref n, H => match H[n]? with
  | some (.dic _ _) => true
  | _ => false
 | _, _ => false
noncomputable def eDM (g : D -> List D -> HD -> Option (D × HD)) (fo : EF) (f : AF) : EF := fun σ H => (fo σ H).bind fun o => if Zml o.1 o.2 = true then (f σ o.2).bind fun p => g o.1 p.1 p.2 else none
theorem Zte {pins : List (Addr × Obj)} {σ : L2.St} {H : Hp} {s : Shared} {ι : List Addr} {Hd : HD} {x : D} {v : V} {u : Value} (I : Inv X pins σ H s) (hr : HRep X.K H ι Hd) (r : Rep X.K H ι x v) (rv : Zcn v u) (e : Zml x Hd = true) :
  s.TypeIs u "dict" ∧ ∀ b, u = .ref b → ∃ ob, s.heap.get? b = some ob ∧ ob.dict = none := by
 cases x <;> simp only [Zml] at e <;> try cases e
 rename_i n
 split at e
 ·rename_i kvs fz hn
  obtain ⟨a, rfl, ha⟩ := Zak.mp r
  cases rv
  obtain ⟨_, _, xs, _, _, dd⟩ := Zhf I (hr.obj n a _ ha hn)
  refine ⟨dd.typeIs, fun b eb => ?_⟩
  cases eb
  obtain ⟨ob, _, _, g1, g2, _⟩ := dd
  exact ⟨ob, g1, g2.2.1⟩
 ·cases e
theorem Zse {e o : Expr} {es : List Expr} {name : Str} {apos cpos : Pos} {id : String} {g : D → List D → HD → Option (D × HD)} {fo : EF} {f : AF} (slot : Slot "dict" name id) (hty : typeOf (.builtin id) = pure (.type "method_descriptor")) (hm : MtF X id g) (ho : PEf X o fo) (ha : PAf X (e :: es) f)
  (hbase : attributeBase o name X.env (eval o X.env) = eval o X.env := by rfl)
  (hfew : ((backTo cpos (starEach (e :: es) X.env)).all (fun x => !x.1) && (backToKw cpos (keywordEach [] X.env)).all (fun x => x.1.isSome)
   && decide ((e :: es).length + ([] : List Keyword).length + (if ([] : List Keyword).isEmpty then 0 else 1) < 30)) = true := by exact Zn0 rfl (by decide))
  (hline : (apos.endLine == cpos.line) = true := by rfl) (hs : starEach (e :: es) X.env = (false, eval e X.env) :: starEach es X.env := by exact Zat rfl) (hplain : (backTo cpos (starEach es X.env)).any (·.1) = false := by exact Zct rfl) :
  PEf X (.Call (.Attribute o name apos) (e :: es) [] cpos) (eDM g fo f) := by
 rintro pins s σ H Q I ⟨ι, σd, Hd, d, Hd', sr, hr, e0, q⟩
 obtain ⟨⟨x, H1⟩, e1, e0⟩ := Zo e0
 dsimp only at e0
 split at e0
 ·rename_i hl
  obtain ⟨⟨y, H2⟩, e2, e0⟩ := Zo e0
  let P1 : VK := fun v1 H1' => ∃ ι1, Le X.K H ι H1' ι1 ∧ HRep X.K H1' ι1 H1 ∧ Rep X.K H1' ι1 x v1
  refine wpAny_Call_method_late hbase hfew hline rfl (thn (ho pins s σ H P1 I ⟨ι, σd, Hd, x, H1, sr, hr, e1, fun v1 H1' ι1 l1 h1 r1 => ⟨ι1, l1, h1, r1⟩⟩) fun v s1 zz => ?_)
  obtain ⟨xv, H1', I1, rx, ι1, l1, h1, r1⟩ := zz
  obtain ⟨t1, t2⟩ := Zte I1 h1 r1 rx hl
  refine ⟨"dict", id, PySem.F.plainAttrs_dict, slot, hty, t1, t2, ?_⟩
  let P2 : List V -> Hp -> Prop := fun vs H2' => ∃ ι2, Le X.K H ι H2' ι2 ∧ HRep X.K H2' ι2 H2 ∧ Rep X.K H2' ι2 x xv ∧ Paired (Rep X.K H2' ι2) y vs
  have hA := ha cpos pins s1 σ H1' P2 I1 ⟨ι1, σd, H1, y, H2, sr.mono l1, h1, e2, fun vs H2' ι2 l2 h2 r2 => ⟨ι2, l1.trans l2, h2, r1.mono l2, r2⟩⟩
  rw [hs] at hA ⊢
  refine Calls.callWith_builtin (by show (false || (backTo cpos (starEach es X.env)).any (·.1)) = false; rw [hplain] <;> rfl) (Calls.evalArgs_plain ?_)
  exact thn hA fun us s2 ⟨vs, H2', I2, r2, ι2, l2, h2, rx2, rp⟩ => hm pins s2 σ H2' xv vs v us Q I2 rx r2 ⟨ι2, x, y, H2, d, Hd', h2, rx2, rp, e0, fun v H' ι' l h r => q v H' ι' (l2.trans l) h r⟩
 ·cases e0
noncomputable def Zoi : FF := fun ds H => match ds with
 | [x] => (Zs9 x H).map fun kvs => (.int kvs.length, H)
 | _ => none
theorem Zn7 : Zg2 X (.builtin "len") Zoi := by
 rintro pins s σ H xs us Q I rv ⟨ι, ds, Hd, d, Hd', hr, P, e, q⟩
 unfold Zoi at e
 split at e
 ·rename_i x
  obtain ⟨kvs, e1, e⟩ := Zm e
  obtain ⟨rfl, rfl⟩ := Prod.mk.inj e
  obtain ⟨n, fz, rfl, hn⟩ := Zh5 e1
  obtain ⟨v, rfl, r⟩ := Zj5 P
  obtain ⟨a, rfl, ha⟩ := Zak.mp r
  cases rv with
  | cons q1 rv =>
   cases rv
   cases q1
   obtain ⟨h1, h2, ys, _, PK, dd⟩ := Zhf I (hr.obj n a _ ha hn)
   have ty : s.TypeIs (.ref a) "dict" := dd.typeIs
   obtain ⟨ob, es, ep, g1, g2, g3, g4, _⟩ := dd
   have sz : es.size = kvs.length := by
    have a1 := size_of_entries g4
    have a2 := Prd.len PK
    omega
   have l63 : (kvs.length : Int) < 2 ^ 63 := by rw [PySem.sizeLine_eq] at h2; omega
   have ask : ∀ A' E', wpAny (model X.prog X.w) A' (Builtin.«dict.__len__» ⟨[.ref a], []⟩) (fun fin s' => ∃ r, fin = .done (.ret r) ∧ r = .int kvs.length s.toks ∧ s' = { s with toks := s.toks + 1 }) E' s := by
    intro A' E'
    show wpAny _ _ (dictSize a >>= _) _ _ s
    unfold dictSize
    refine wpAny_bind (wpAny_bind (wpAny_dictEntries g1 g3 (wpAny_pure (wpAny_bind (wpAny_pendingCount_other h1 (wpAny_ret_mkInt ?_))))))
    rw [Nat.add_zero, sz]
    exact ⟨rfl, rfl⟩
   refine Calls.call_function_entry kind_len plain_len entry_len (args_len1 _) ?_
   unfold Builtin.«len»
   refine wpAny_bind (m := oneArg "len" _) (wpAny_pure (wpAny_bind (m := callSpecial? (.ref a) (Str.ofString "__len__")) (wpAny_callSpecial?_slot (name := Str.ofString "__len__") ty PySem.F.slot_dict_len
    (wpAny_call_entry PySem.F.slot_dict_len ty PySem.F.entry_dict_len (thn (ask _ _) fun fin s' ⟨r, f1, f2, f3⟩ => ⟨r, f1, ?_⟩) (PySem.F.args_dict_len_1 _)))))
   subst f2 f3
   refine wpAny_bind (wpAny_holding (wpAny_pure (wpAny_bind (wpAny_letGo ?_))))
   show wpAny _ _ (if ((kvs.length : Nat) : Int) < 0 then _ else if ((kvs.length : Nat) : Int) ≥ 2 ^ 63 then _ else _) _ _ _
   rw [if_neg (by omega), if_neg (by omega)]
   exact wpAny_bind (wpAny_mkInt (wpAny_pure ⟨_, rfl, .int kvs.length, H, I.tok _, ⟨_, rfl⟩, q _ H ι Le.refl hr (by simp)⟩))
 ·cases e
section
variable {prog : Program} {w : World} {A : Around} {E : Value -> Shared -> Prop} {s : Shared}
theorem Zt1 {d : Addr} {ob : Obj} {es : Array DictEntry} {ep : Nat} {Q : Value -> Shared -> Prop} (h0 : (d == sysModules) = false) (g1 : s.heap.get? d = some ob) (g2 : ob.ExactDict) (g3 : ob.data = .dict es ep)
  (q : Q (.ref s.heap.objs.size) { s with heap := s.heap.push { cls := .type "dict_keyiterator", data := .fields #[.ref d, .int 0 0, .int es.size 0, .int ep 0] } }) : wpAny (model prog w) A (pyIter (.ref d)) Q E s := by
 have ty : s.TypeIs (.ref d) "dict" := ⟨ob, g1, g2.1⟩
 refine wpAny_pyIter_slot ty F.slot_dict_iter (wpAny_call_entry F.slot_dict_iter ty F.entry_dict_iter ?_ (F.args_dict_iter_1 _))
 unfold Builtin.«dict.__iter__» Builtin.Dict.dictSlotNone
 refine wpAny_bind (wpAny_bind (wpAny_notOrdered_dict ty (wpAny_pure ?_)))
 show wpAny _ _ (Builtin.Dict.showsAll d >>= _) _ _ s
 unfold Builtin.Dict.showsAll
 rw [if_neg (by rw [h0]; decide)]
 refine wpAny_bind (wpAny_pure (wpAny_bind (wpAny_dictEntries g1 g3 (wpAny_bind (wpAny_dictEpoch g1 g3 (wpAny_bind (wpAny_newObj_type (wpAny_pure ?_))))))))
 exact ⟨_, rfl, "dict_keyiterator", _, ⟨_, Heap.get?_push_size _ rfl, rfl⟩, F.slot_dict_keyiterator_next.lookup, by simpa [rawInt] using q⟩
theorem Zxh {d it : Addr} {ob : Obj} {es : Array DictEntry} {i ep : Nat} {Q : Option Value -> Shared -> Prop} (hit : s.heap.IsKeyIter it d i es.size ep) (g1 : s.heap.get? d = some ob) (g3 : ob.data = .dict es ep) (lt : i < es.size)
  (q : ∀ h2, h2.IsKeyIter it d (i + 1) es.size ep -> Heap.SameBut it s.heap h2 -> Q (some es[i].key) { s with heap := h2 }) : wpAny (model prog w) A (pyNext (.ref it)) Q E s := by
 have ty := hit.typeIs
 obtain ⟨oi, i1, i2, i3⟩ := id hit
 have own : Builtin.Dict_items.ownsTuple "dict_keyiterator" = false := by decide
 unfold pyNext
 refine wpAny_bind (wpAny_attempt (wpAny_callSpecial?_slot (name := Str.ofString "__next__") ty F.slot_dict_keyiterator_next (wpAny_call_entry F.slot_dict_keyiterator_next ty F.entry_dict_keyiterator_next ?_ (F.args_dict_keyiterator_next_1 _))))
 refine wpAny_bind (wpAny_pure (wpAny_bind (wpAny_bind ?_)))
 refine wpAny_bind (wpAny_typeNameOfWhole_keyiter ty (wpAny_pure (wpAny_bind (wpAny_fieldsOf i1 i3 ?_))))
 simp only [own, Bool.false_eq_true, if_false]
 show wpAny _ _ (if (Value.ref d == Value.none) = true then _ else _) _ _ s
 have nn : ¬ ((Value.ref d == Value.none) = true) := Bool.false_ne_true
 rw [if_neg nn]
 refine wpAny_bind (wpAny_pure (wpAny_bind (wpAny_dictEntries g1 g3 ?_)))
 rw [if_neg (by simp)]
 refine wpAny_bind (wpAny_pure (wpAny_bind (wpAny_dictEpoch g1 g3 ?_)))
 rw [if_neg (by simp)]
 refine wpAny_pure ?_
 have neg : ¬ ((i : Int) < 0) := by omega
 simp only [neg, if_false, Int.toNat_natCast, Array.getElem?_eq_getElem lt]
 refine wpAny_bind (wpAny_bind (wpAny_typeNameOfWhole_keyiter ty (wpAny_pure (wpAny_bind (wpAny_isOneOf_keyiter ty ?_)))))
 show wpAny _ _ (setField (.ref it) 1 (rawInt ((i : Int) + 1)) >>= _) _ _ s
 let h2 := s.heap.update it (Obj.mapFields (·.setIfInBounds 1 (rawInt ((i : Int) + 1))))
 have it2 : h2.IsKeyIter it d (i + 1) es.size ep :=
  ⟨_, Heap.get?_update_self _ i1 (Obj.isFreed_of_fields (Obj.data_mapFields i3 _)), (Obj.cls_mapFields ..).trans i2, by rw [Obj.data_mapFields i3]; simp [rawInt]⟩
 refine wpAny_bind (wpAny_setField i1 i3 (by simp) (wpAny_bind (wpAny_holding (wpAny_bind (wpAny_isOneOf_keyiter (s := { s with heap := h2 }) it2.typeIs ?_)))))
 show wpAny _ _ (pure es[i].key) _ _ _
 exact wpAny_pure (wpAny_pure ⟨_, rfl, wpAny_pure (q h2 it2 (Heap.SameBut.update ..))⟩)
theorem Zui {d it : Addr} {ob : Obj} {es : Array DictEntry} {i ep : Nat} {Q : Option Value -> Shared -> Prop} (hh : A.handled = none) (hit : s.heap.IsKeyIter it d i es.size ep) (g1 : s.heap.get? d = some ob) (g3 : ob.data = .dict es ep) (ge : es.size ≤ i)
  (q : ∀ h2, Heap.ExtBut it s.heap h2 -> Q none { s with heap := h2 }) : wpAny (model prog w) A (pyNext (.ref it)) Q E s := by
 have ty := hit.typeIs
 obtain ⟨oi, i1, i2, i3⟩ := id hit
 have own : Builtin.Dict_items.ownsTuple "dict_keyiterator" = false := by decide
 unfold pyNext
 refine wpAny_bind (wpAny_attempt (wpAny_callSpecial?_slot (name := Str.ofString "__next__") ty F.slot_dict_keyiterator_next (wpAny_call_entry F.slot_dict_keyiterator_next ty F.entry_dict_keyiterator_next ?_ (F.args_dict_keyiterator_next_1 _))))
 refine wpAny_bind (wpAny_pure (wpAny_bind (wpAny_bind ?_)))
 refine wpAny_bind (wpAny_typeNameOfWhole_keyiter ty (wpAny_pure (wpAny_bind (wpAny_fieldsOf i1 i3 ?_))))
 simp only [own, Bool.false_eq_true, if_false]
 show wpAny _ _ (if (Value.ref d == Value.none) = true then _ else _) _ _ s
 have nn : ¬ ((Value.ref d == Value.none) = true) := Bool.false_ne_true
 rw [if_neg nn]
 refine wpAny_bind (wpAny_pure (wpAny_bind (wpAny_dictEntries g1 g3 ?_)))
 rw [if_neg (by simp)]
 refine wpAny_bind (wpAny_pure (wpAny_bind (wpAny_dictEpoch g1 g3 ?_)))
 rw [if_neg (by simp)]
 refine wpAny_pure ?_
 have neg : ¬ ((i : Int) < 0) := by omega
 simp only [neg, if_false, Int.toNat_natCast, Array.getElem?_eq_none ge]
 refine wpAny_bind (wpAny_bind (wpAny_typeNameOfWhole_keyiter ty (wpAny_pure ?_)))
 show wpAny _ _ (setField (.ref it) 0 .none >>= _) _ _ s
 refine wpAny_bind (wpAny_setField i1 i3 (by simp) ?_)
 show wpAny _ _ (newExc (.type "StopIteration") [] >>= _) _ _ _
 simp only [newExc, newTuple]
 refine wpAny_bind (wpAny_bind (wpAny_newObj_type (wpAny_bind (m := firstArgMember _ _) (wpAny_of_eq (a := Value.none) (by first | rfl | (simp only [firstArgMember]; rfl)) (wpAny_newObj_type ?_ (by size_fits)))) (by size_fits)))
 simp only [raiseNew]
 refine wpAny_bind (wpAny_handled ?_)
 have hh1 : A.in1.handled = none := hh
 rw [hh1]
 refine wpAny_bind (wpAny_pure (wpAny_throw ?_))
 refine wpAny_bind (wpAny_isInstance (T := "StopIteration") (b := true) (by exact ⟨_, Heap.get?_push_size _ rfl, rfl⟩) isSubtype_stop ?_)
 exact wpAny_pure (q _ (((Heap.SameBut.update ..).extBut.push _).push _))
end
noncomputable def Itd (a : Addr) (ob : Obj) (u : HO) (ks : List Addr) : It :=
 ⟨fun i H => H a = some (.frz ob u) ∧ i < ks.length, fun i H x H' => H' = H ∧ ∃ b, ks[i]? = some b ∧ x = .ref b, fun i H => H a = some (.frz ob u) ∧ ks.length ≤ i⟩
theorem Ztk {P : Program} {w : World} {K : PySem.W.Frag} {tg : Expr} (a it : Addr) {ob : Obj} {u : HO} {es : Array DictEntry} {ep : Nat} {ks : List Addr} (g3 : ob.data = .dict es ep) (hk : es.toList.map (·.key) = ks.map Value.ref) :
  Turn P w K tg (Itd a ob u ks) [it] it (fun i h => h.IsKeyIter it a i es.size ep) where
 mem := by simp
 obj := fun i h st b hb => by
  have e : b = it := by simpa using hb
  subst e
  obtain ⟨o, e, c, d⟩ := st
  exact ⟨o, e, fun v z => by rw [d] at z; cases z⟩
 keep := fun i h h' st k => st.at fun o e => k it (by simp) o e
 item := by
  intro X hP hw hK hc i pins s σ H E I hf st hg
  subst hP hw hK
  obtain ⟨hq, hx⟩ := hg
  obtain ⟨g1, _⟩ := (show Zdb X.prog X.w H s.heap a (.frz ob u) from I.hok a _ hq)
  obtain ⟨f0, f1, f2, f3, f4, f5⟩ := hf it (by simp)
  have hl : es.size = ks.length := by
   have := congrArg List.length hk
   simpa using this
  have lt : i < es.size := by omega
  have key : es[i].key = Value.ref ks[i] := by
   have e1 : (es.toList.map (·.key))[i]? = some es[i].key := by simp [lt]
   rw [hk, List.getElem?_map, List.getElem?_eq_getElem hx] at e1
   exact (Option.some.inj e1).symm
  refine Zxh st g1 g3 lt fun h' st' sb => ?_
  have I1 : Inv X pins σ H { s with heap := h' } := I.turned (t' := s.toks) (fun b o hb e => (sb.2 b hb).trans e) f0 f1 f3 f4 f5
  obtain ⟨o, e, c, d⟩ := id st'
  exact ⟨_, rfl, Zsh (s := { s with heap := h' }) e c d (by decide) ⟨.ref ks[i], H, I1, key, ⟨rfl, ks[i], List.getElem?_eq_getElem hx, rfl⟩, st', fun b hb => (hf b hb).1⟩⟩
 done := by
  intro X hP hw hK hc i pins s σ H E I hf st hg
  subst hP hw hK
  obtain ⟨hq, hx⟩ := hg
  obtain ⟨g1, _⟩ := (show Zdb X.prog X.w H s.heap a (.frz ob u) from I.hok a _ hq)
  obtain ⟨f0, f1, f2, f3, f4, f5⟩ := hf it (by simp)
  have hl : es.size = ks.length := by
   have := congrArg List.length hk
   simpa using this
  exact Zui (I.ok.hd hc) st g1 g3 (by omega) fun h' eb => ⟨rfl, I.turned (t' := s.toks) (fun b o hb e => eb b o hb e) f0 f1 f3 f4 f5⟩
 self := fun _ _ _ _ _ st h => wpAny_pyIter_keyiter st h
variable {X : Cx} {tg : Expr}
noncomputable def Zv2 (f : EF) : ItF := fun σ H => (f σ H).bind fun p => match p.1 with
 | .ref n => match p.2[n]? with
  | some (.dic kvs _) => some ((kvs.map (·.1), [(n, .dic kvs true)]), p.2.set n (.dic kvs true))
  | _ => none
 | _ => none
theorem Zqz {K : PySem.W.Frag} {H : Hp} {ι : List Addr} {kvs : List (D × D)} {xs : List (List Int × Addr × Value)} (h : Paired (Zmr K H ι) kvs xs) : Paired (Rep K H ι) (kvs.map (·.1)) (xs.map fun x => V.ref x.2.1) := by
 induction h with
 | nil => exact .nil
 | cons r t ih => exact .cons r.2.1 ih
theorem Zp6 {l : Expr} {f : EF} (hl : PEf X l f) : PIf X tg l (Zv2 f) := by
 rintro pins s σ H R I ⟨ι, σd, Hd, xs, own, Hd', sr, hr, e, q⟩
 obtain ⟨⟨x, H1⟩, e1, e⟩ := Zo e
 obtain ⟨n, rfl⟩ : ∃ n, x = .ref n := by cases x <;> first | exact ⟨_, rfl⟩ | cases e
 let P1 : VK := fun v1 H1' => ∃ ι1, Le X.K H ι H1' ι1 ∧ HRep X.K H1' ι1 H1 ∧ Rep X.K H1' ι1 (.ref n) v1
 refine thn (hl pins s σ H P1 I ⟨ι, σd, Hd, .ref n, H1, sr, hr, e1, fun v1 H1' ι1 l1 h1 r1 => ⟨ι1, l1, h1, r1⟩⟩) fun v s1 zz => ?_
 obtain ⟨xv, H1', I1, rx, ι1, l1, h1, r1⟩ := zz
 simp only at e
 split at e
 ·rename_i kvs fz hn
  cases e
  obtain ⟨a, rfl, ha⟩ := Zak.mp r1
  cases rx
  obtain ⟨z1, z2, ys, z3, PK, dd⟩ := Zhf I1 (h1.obj n a _ ha hn)
  obtain ⟨ob, es, ep, g1, g2, g3, g4, g5, g6⟩ := dd
  refine Zt1 z1 g1 g2 g3 ?_
  let u : HO := .ext (Zca a ys)
  let H2 : Hp := upd H1' a (.frz ob u)
  have keys : es.toList.map (·.key) = (ys.map fun x => x.2.1).map Value.ref := by rw [g4, List.map_map, List.map_map]; rfl
  have da : Zca a ys s1.heap := ⟨ob, es, ep, g1, g2, g3, g4, g6⟩
  have okN : ∀ Hx, Zdb X.prog X.w Hx s1.heap a (.frz ob u) := fun Hx => ⟨g1, da, ⟨ob, g1⟩, fun h1 h2 d k => Zca.keep d k⟩
  have froz : Inv X pins σ H2 s1 ∧ Le X.K H1' ι1 H2 ι1 := by
   cases fz with
   | false =>
    rw [if_neg (by simp)] at z3
    exact ⟨I1.write (t' := s1.toks) (h' := s1.heap) (x := a) (e := a) (by rw [z3]; exact True.intro) (.inl rfl) (fun b q hb z => z) ⟨ob, g1⟩ (okN _), Le.upd (List.mem_of_getElem? ha) z3 trivial _⟩
   | true =>
    rw [if_pos rfl] at z3
    obtain ⟨o2, z3⟩ := z3
    obtain ⟨g1', _⟩ := (show Zdb X.prog X.w H1' s1.heap a (.frz o2 (.ext (Zca a ys))) from I1.hok a _ z3)
    have eo : o2 = ob := Option.some.inj (g1'.symm.trans g1)
    have eH : H2 = H1' := by
     funext b
     by_cases hb : b = a
     ·subst hb; show upd H1' b (.frz ob u) b = H1' b; rw [Zaq, z3, eo]
     ·exact Zaj hb
    rw [eH]
    exact ⟨I1, Le.refl⟩
  obtain ⟨I2, L2'⟩ := froz
  have hr2 : HRep X.K H2 ι1 (H1.set n (.dic kvs true)) := by
   refine ⟨by simp [h1.len], h1.nd, fun m b oc m1 m2 => ?_⟩
   by_cases hm : n = m
   ·subst hm
    rw [ha] at m1; cases m1
    rw [List.getElem?_set] at m2
    rw [if_pos rfl] at m2
    split at m2
    ·cases m2
     exact ⟨z1, z2, ys, by rw [if_pos rfl]; exact ⟨ob, Zaq⟩, Prd.imp PK fun p x _ z => ⟨z.1, z.2.1.mono L2', let ⟨v, w1, w2⟩ := z.2.2; ⟨v, w1, w2.mono L2'⟩⟩⟩
    ·cases m2
   ·rw [List.getElem?_set_ne hm] at m2
    have hb : b ≠ a := fun z => by
     subst z
     exact hm ((List.getElem?_inj (List.getElem?_eq_some_iff.mp ha).1 h1.nd).mp (ha.trans m1.symm))
    exact (h1.obj m b oc m1 m2).step L2'.toLw (Zaj hb)
  have I3 : Inv X pins σ H2 { s1 with heap := s1.heap.push { cls := .type "dict_keyiterator", data := .fields #[.ref a, .int 0 0, .int es.size 0, .int ep 0] } } := I2.kept (t' := s1.toks) fun b o e => Heap.get?_push_of_some _ e
  refine ⟨s1.heap.objs.size, [s1.heap.objs.size], _, Itd a ob u (ys.map fun x => x.2.1), H2, rfl, I3, Ztk a _ g3 keys, ⟨_, Heap.get?_push_size _ rfl, rfl, rfl⟩, fun b hb => ?_, ?_⟩
  ·have e : b = s1.heap.objs.size := by simpa using hb
   subst e
   exact I2.fpOk (Nat.le_refl _) (I2.hok.fresh (Nat.le_refl _))
  ·have fa : H2 a = some (.frz ob u) := Zaq
   have pk := Zqz PK
   refine q _ H2 ι1 (l1.trans L2') hr2 ⟨fun i H3 ι3 Hd3 l3 h3 _ hi => ⟨l3.fr _ _ _ fa, ?_⟩, fun i H3 ι3 Hd3 d x H4 l3 h3 _ hd y => ?_, fun i H3 ι3 Hd3 l3 h3 _ hi => ⟨l3.fr _ _ _ fa, ?_⟩⟩
   ·have := Prd.len PK; simp only [List.length_map] at hi ⊢; omega
   ·obtain ⟨rfl, b, hb, rfl⟩ := y
    obtain ⟨v, hv, rv⟩ := Prd.get pk hd
    have ev : v = .ref b := by
     rw [List.getElem?_map] at hv hb
     cases hy : ys[i]? with
     | none => rw [hy] at hv; cases hv
     | some yv => rw [hy] at hv hb; cases hv; cases hb; rfl
    subst ev
    exact ⟨ι3, Le.refl, h3, (rv.mono L2').mono l3⟩
   ·have := Prd.len PK; simp only [List.length_map] at hi ⊢; omega
 ·cases e
noncomputable def Zxl (n N : Nat) (b : FF -> SF) : Nat -> FF
 | 0 => Zbp n N fun _ _ => none
 | j + 1 => Zbp n N (b (Zxl n N b j))
theorem Zva {P : Program} {w : World} {K : PySem.W.Frag} {mg : Str -> Option Value} {base : Heap} {x : Str} {st : Stmt} {N ps : List Str} {k : Nat} {b : FF -> SF} (T : Tf K mg x st) (S : FnScope N ps (Zad st))
  (hbd : ∀ (kV doc pm : Value) (an : Option Addr) (cdv ct : Value) (us : List Value), us.length = ps.length -> bindArgs (PySem.W.fnOf x x (Zda st) (Zbe st) (Zad st) .none kV doc pm an cdv ct) ⟨us, []⟩ = pure (ps.zip us))
  (hb : ∀ (F : FF) (j : Nat), Fn P w K mg base (k + 1 + j) x ps F -> ∀ (f : Addr) (cdv : Value) (A : Around) (outer : List Env) (s : Shared) (H : Hp) (E : XK), Room (k + 1 + j) (A.deeper (envOfC x (Zad st) s.heap.objs.size f cdv)) →
   Zng (Ze2 CX0 P w K mg base N x (Zad st) f cdv A outer s H E).nox (Zbe st) (b F)) : ∀ j, Fn P w K mg base (k + 1 + j) x ps (Zxl ps.length N.length b j)
 | 0 => Zc0 (k := k) T S hbd fun f cdv A outer s H E _ => by
  rintro pins s' σ H' E' I ⟨ι, σd, Hd, fl, σd', Hd', _, _, e, _⟩
  cases e
 | j + 1 => Zc0 (k := k + 1 + j) T S hbd fun f cdv A outer s H E hr => hb _ j (Zva T S hbd hb j) f cdv A outer s H E hr
theorem Zrn {K : PySem.W.Frag} {h : Heap} {mg : Str -> Option Value} {x : Str} {b1 b2 : Bool} {p : Addr} {n : Nat} {osl : Array (Option Value)} (X : K.In h) (G : h.Ns mainGlobals mg) (a : PySem.W.nsIn K mainGlobals x = some (some (.ref p)))
  (l : K.lookup p = some ⟨.type "tuple", none, .seq #[.bool b1, .bool b2] n, osl⟩) : Gc K mg x (.tup [.bl b1, .bl b2]) := by
 refine ⟨_, .ref p, PySem.W.mg_of X G a, rfl, fun H ι => Za4.mpr ⟨p, [.bl b1, .bl b2], rfl, .inr ⟨_, _, _, l, rfl, rfl, ?_, ?_, rfl⟩, ?_⟩⟩
 ·show 2 ≤ sizeLine
  rw [PySem.sizeLine_eq]; omega
 ·exact .cons rfl (.cons rfl .nil)
 ·exact .cons (by simp) (.cons (by simp) .nil)
section
variable {prog : Program} {w : World} {A : Around} {E : Value -> Shared -> Prop} {s : Shared}
theorem Zxa {T newId : String} {self a : Value} {kw : List (Str × Value)} (hl : typeLookup (.type T) "__init__" = pure (some (.builtin "object.__init__")))
  (hm : Bind.madeBy (.type T) = pure (some newId)) (hne : (some newId != some "object.__new__") = true) :
  Meets (Builtin.«object.__init__» ⟨[self, a], kw⟩) (fun _ R s => s.TypeIs self T ∧ R (.ok (.ret .none)) s) := by
 refine Meets.of_wp fun prog w A R s zz => ?_
 obtain ⟨hT, hq⟩ := zz
 repeat (any_goals (first | assumption | wp_step))
 exact ⟨_, rfl, hq⟩
theorem tc_kw (a v : Value) : checkTypeCall "enumerate" ⟨[a], [("start", v)]⟩ = pure () := by kernel_rfl
theorem nc_kw (a v : Value) : checkBuiltinCall "enumerate.__new__" ⟨[.type "enumerate", a], [("start", v)]⟩ = pure () := by kernel_rfl
open AutoSeq1 (wpAny_loadPart') in
theorem Zqh (t : Addr) (its : Array Value) (n : Nat) (dct : Option Addr) (sl : Array (Option Value)) (tk0 : Tok) :
  Meets (Builtin.«enumerate.__new__» ⟨[.type "enumerate", .ref t], [("start", .int 1 tk0)]⟩) (fun _ R s => s.heap.get? t = some { cls := .type "tuple", dict := dct, data := .seq its n, slots := sl } ∧
   R (.ok (.ret (.ref (s.heap.push { cls := .type "tuple_iterator", data := .fields #[.ref t, .int 0 0] }).objs.size)))
    { s with heap := (s.heap.push { cls := .type "tuple_iterator", data := .fields #[.ref t, .int 0 0] }).push { cls := .type "enumerate", data := .fields #[.none, .bool false, .ref s.heap.objs.size, rawInt 1, .none, .none] } }) :=
 .of_wp fun prog w A R s h => by
  obtain ⟨hp, g, d, tk, os⟩ := s; obtain ⟨hl, h⟩ := h
  have hsub := sub_enumerate
  have hL : Heap.IsTuple (Shared.heap ⟨hp, g, d, tk, os⟩) t its := ⟨_, hl, rfl, n, rfl⟩
  wp_walk using wpAny_loadPart' hl
  refine wpAny_stack_any fun st => wpAny_pure ?_
  split
  ·rename_i k _ _ _ _ _
   cases (k == Value.type "enumerate") <;> (wp_walk using wpAny_loadPart' hl, wpAny_pyIter_tuple hL; exact ⟨_, rfl, h⟩)
  ·wp_walk using wpAny_loadPart' hl, wpAny_pyIter_tuple hL
   exact ⟨_, rfl, h⟩
end
section
variable {prog : Program} {w : World} {A : Around} {E : Value -> Shared -> Prop} {s : Shared}
theorem Zxz {args : List Value} {kw : List (Str × Value)} {newId : String} {Bn : Builtin} {T : String} {S : PySem.Spec} {Q : Value → Shared → Prop} (ft : TypeCalled T newId "object.__init__") (hne : (some newId != some "object.__new__") = true)
  (hct : checkTypeCall T ⟨args, kw⟩ = pure ()) (hcn : checkBuiltinCall newId ⟨.type T :: args, kw⟩ = pure ()) (entryN : entryFor table newId = some Bn) (g : Meets (Bn ⟨.type T :: args, kw⟩) S)
  (hok : ∀ obj, argsOk "object.__init__" ⟨obj :: args, kw⟩) (gi : ∀ obj, Meets (Builtin.«object.__init__» ⟨obj :: args, kw⟩) (fun _ R s => s.TypeIs obj T ∧ R (.ok (.ret .none)) s))
  (h : S A.in1 (wants (fun obj s₁ => s₁.TypeIs obj T ∧ Q obj s₁) E) s) : wpAny (model prog w) A (call (.type T) args kw) Q E s := by
 obtain ⟨c, tl, hmro⟩ := ft.mro
 have hmade := ft.made
 have hsub := ft.sub
 have n1 := ft.notType
 have n2 := ft.canCreate
 refine wpAny_call (codeAny_of_tree (show wpAny _ _ (callAny (.type T) _) _ _ _ from wpAny_pure ⟨Code.quiet_builtin _ (by decide +kernel), codeAny_builtin F.entry_type_call ?_⟩))
 rw [Around.under_plain (weight_type_call_type T args kw) (units_type_call_type T args kw)]
 repeat (any_goals (first | assumption | wp_step))
 refine codeAny_mono (codeAny_call_builtin ft.plain entryN (wpAny_of_eq hcn (g prog w A.in1 _ s h))) fun r s₁ hr => ?_
 cases r with
 | error e => exact hr
 | ok fl =>
  cases fl with
  | ret obj =>
   obtain ⟨hT, hq⟩ : s₁.TypeIs obj T ∧ Q obj s₁ := hr
   have hli := ft.init.lookup
   have hbi := ft.init.bind obj
   repeat (any_goals (first | assumption | wp_step))
   refine codeAny_mono (codeAny_call_builtin ft.init.plain F.entry_object_init (ft.init.check _ _ _ _ _ _ _ _ hT (hok obj) (gi obj prog w A.in1 (wants (fun r s₂ => r = .none ∧ Q obj s₂) E) s₁ ⟨hT, rfl, hq⟩))) fun r₂ s₂ hr₂ => ?_
   cases r₂ with
   | error e => exact hr₂
   | ok fl₂ =>
    cases fl₂ with
    | ret r =>
     obtain ⟨rfl, hq2⟩ := hr₂
     repeat (any_goals (first | assumption | wp_step))
    | _ => exact hr₂.elim
  | _ => exact hr.elim
theorem Zip {M : Model} {pos : Pos} {T : String} {args : List (Bool × Sem Value)} {kws : List (Option Str × Sem Value)} {Q : Value -> Shared -> Prop} (h1 : args.any (·.1) = false) (h2 : kws.any (·.1.isNone) = false)
  (h : wpAny M A (evalArgs (.type T) true args kws) (fun a s₁ => wpAny M A (call (.type T) a.pos a.kw) Q E s₁) E s) : wpAny M A (callWith pos (.type T) [] args kws) Q E s := by
 unfold callWith
 refine wpAny_bind (wpAny_holding (thn h fun a s₁ q => wpAny_bind (wpAny_standAt ?_)))
 simp only [h1, h2, Bool.or_false]
 exact wpAny_bind (wpAny_pure (wpAny_bind (thn q fun r s₂ q2 => wpAny_bind (wpAny_holding (wpAny_point (wpAny_pure q2))))))
theorem Zsf (a b v : Value) : argsOk "object.__init__" ⟨[a, b], [("start", v)]⟩ := by
 unfold argsOk
 first | decide +kernel | kernel_rfl | (intro _; kernel_rfl)
theorem Zou {t : Addr} {its : Array Value} {tk : Tok} {Q : Value -> Shared -> Prop} (hL : s.heap.IsTuple t its)
  (h : ∀ h', IsEnum h' (s.heap.objs.size + 1) s.heap.objs.size 1 .none -> h'.IsTupleIter s.heap.objs.size t 0 -> h'.objs.size = s.heap.objs.size + 2 →
   (∀ b o, s.heap.get? b = some o -> h'.get? b = some o) -> Q (.ref (s.heap.objs.size + 1)) { s with heap := h' }) :
  wpAny (model prog w) A (call (.type "enumerate") [.ref t] [("start", .int 1 tk)]) Q E s := by
 obtain ⟨⟨k, dct, dt, sl⟩, hl, hc, n, hd⟩ := hL
 replace hc : k = .type "tuple" := hc
 replace hd : dt = .seq its n := hd
 subst hc hd
 refine Zxz F.called_enumerate (by decide) (tc_kw _ _) (nc_kw _ _) F.entry_enumerate_new (Zqh t its n dct sl tk) (fun obj => Zsf _ _ _) (fun obj => Zxa F.called_enumerate.init.lookup F.called_enumerate.made (by decide)) ⟨hl, ?_⟩
 have hz : (s.heap.push { cls := .type "tuple_iterator", data := .fields #[.ref t, .int 0 0] }).objs.size = s.heap.objs.size + 1 := Heap.size_push ..
 show _ ∧ _
 rw [hz]
 have he : IsEnum ((s.heap.push { cls := .type "tuple_iterator", data := .fields #[.ref t, .int 0 0] }).push { cls := .type "enumerate", data := .fields #[.none, .bool false, .ref s.heap.objs.size, rawInt 1, .none, .none] }) (s.heap.objs.size + 1) s.heap.objs.size 1 .none := by
  have q := Heap.get?_push_size (s.heap.push { cls := .type "tuple_iterator", data := .fields #[.ref t, .int 0 0] }) (o := { cls := .type "enumerate", data := .fields #[.none, .bool false, .ref s.heap.objs.size, rawInt 1, .none, .none] }) rfl
  rw [hz] at q; exact q
 exact ⟨⟨_, he, rfl⟩, h _ he ⟨_, Heap.get?_push_of_some _ (Heap.get?_push_size _ rfl), rfl, rfl⟩ (by rw [Heap.size_push, hz]) fun b o x => Heap.get?_push_of_some _ (Heap.get?_push_of_some _ x)⟩
end
variable {X : Cx}
noncomputable def Znd (f : AF) : ItF := fun σ H => (f σ H).bind fun p => match p.1 with
 | [.tup xs] => some ((Zey 1 xs, []), p.2)
 | _ => none
theorem Zqr {es : List Expr} {k : Nat} {tp p pos kp cp : Pos} {cj : Nat} {a : Expr} {f : AF} (hg : Gl X "enumerate") (hm : X.mg "enumerate" = none) (ha : PAf X [a] f) (hs : starEach [a] X.env = [(false, eval a X.env)] := by rfl) :
  PIf X (.Tuple es k tp) (.Call (.Name "enumerate" p) [a] [⟨some "start", .Constant (.int 1) cj cp, kp⟩] pos) (Znd f) := by
 rintro pins s σ H R I ⟨ι, σd, Hd, xs, own, Hd', sr, hr, e, q⟩
 obtain ⟨⟨ds, H1⟩, e1, e⟩ := Zo e
 dsimp only at e
 split at e
 ·rename_i ys
  cases e
  show wpAny _ _ (do callWith pos (← eval (.Name "enumerate" p) X.env) [] (backTo pos (starEach [a] X.env)) (backToKw pos (keywordEach [⟨some "start", .Constant (.int 1) cj cp, kp⟩] X.env))) _ _ _
  let P1 : List V -> Hp -> Prop := fun vs H' => ∃ ad ws, vs = [.ref ad] ∧ SqT X.K H' ad ws ∧ ∀ (J : It) (H2 : Hp), H2 = H' -> J = Zx5 X.K 1 ad -> R J H2
  refine wpAny_bind (Zhn I hg hm boot_enumerate (Zip (by rw [hs]; rfl) rfl ?_))
  have hA := ha pos pins s σ H P1 I ⟨ι, σd, Hd, _, _, sr, hr, e1, fun vs H' ι' l h P => by
   obtain ⟨v, rfl, r⟩ := Zj5 P
   obtain ⟨ad, ws, rfl, hS, P2⟩ := Za4.mp r
   refine ⟨ad, ws, rfl, hS, fun J H2 e2 e3 => ?_⟩
   subst e2 e3
   exact q _ _ ι' l h (Zn2 hS P2 fun i H x y h => y ws h)⟩
  rw [hs] at hA ⊢
  refine evalArgs_kwB rfl (thn hA fun us s1 zz => ?_)
  obtain ⟨vs, H2, I2, r2, ad, ws, e2, hS, q2⟩ := zz
  subst e2
  obtain ⟨u, rfl, ru⟩ := Zir r2
  cases ru
  refine kws_cons (thn (Zuw pins s1 σ H2 (fun x H' => x = .int 1 ∧ H' = H2) I2 ⟨rfl, rfl⟩) fun v s2 ⟨x, H3, I3, rx, ex, eH⟩ => kws_nil ?_)
  subst ex eH
  obtain ⟨t, rfl⟩ := rx
  obtain ⟨its, rv, p, hz⟩ := I3.tuple hS
  show wpAny _ _ (call (.type "enumerate") [.ref ad] [("start", .int 1 t)]) _ _ _
  refine Zou (show s2.heap.IsTuple ad its.toArray from p) fun h' he hj z' kk => ?_
  have I4 : Inv X pins σ H3 { s2 with heap := h' } := I3.kept (t' := s2.toks) kk
  refine wpAny_pyIter_enum (s := { s2 with heap := h' }) he ?_
  have ne : s2.heap.objs.size + 1 ≠ s2.heap.objs.size := Nat.succ_ne_self _
  refine ⟨s2.heap.objs.size + 1, [s2.heap.objs.size + 1, s2.heap.objs.size], _, Zx5 X.K 1 ad, H3, rfl, I4, Zjb ad _ _ 1 ne, ⟨.none, by simpa using he, hj⟩, fun b hb => ?_, q2 _ _ rfl rfl⟩
  have : s2.heap.objs.size ≤ b := by
   rcases List.mem_cons.mp hb with rfl | hb
   ·exact Nat.le_succ _
   ·have : b = s2.heap.objs.size := by simpa using hb
    rw [this]; exact Nat.le_refl _
  exact I3.fpOk (b := b) (H' := H3) this (I3.hok.fresh this)
 ·cases e
variable {X : Cx} {tg : Expr}
section
variable {X : Cx} {e : Expr} {es : List Expr} {pos : Pos}
theorem Zoz {h : Heap} {vs : Array Value} {xs : List PyData} {as : List Addr} {d : PyData} (rs : ReadsAll h vs.toList xs as) (hxs : PyData.canLayAll0 xs = true) :
  vs.toList.countP (fun y => PyData.eqv (SeqAt.readOf h y) d) = xs.countP fun z => PyData.eqv z d := by
 have e := SeqAt.readsAll_map xs _ _ hxs rs
 rw [← e, List.countP_map]
 rfl
end
section
variable {X : Cx} {e : Expr} {pos : Pos}
noncomputable def Zwf : SF := fun _ _ => none
theorem Zx0 {st : Stmt} : PSf X st Zwf := by
 rintro pins s σ H E I ⟨ι, σd, Hd, fl, σd', Hd', _, _, e, _⟩
 cases e
end
section
variable {X : Cx}
theorem Zlu {prog : Program} {w : World} {A : Around} {E : Value -> Shared -> Prop} {it l : Addr} {xs : Array Value} (ne : l ≠ it) : ∀ (n i : Nat) (s : Shared) (Q : List Value -> Shared -> Prop), s.heap.IsListIter it l i -> s.heap.IsList l xs -> i + n ≤ xs.size →
  (∀ h', h'.IsListIter it l (i + n) -> Heap.SameBut it s.heap h' -> Q ((xs.toList.drop i).take n) { s with heap := h' }) -> wpAny (model prog w) A (draw (.ref it) n) Q E s
 | 0, i, s, Q, hit, _, _, q => by
  show wpAny _ _ (pure []) Q E s
  exact wpAny_pure (by simpa using q s.heap hit (Heap.SameBut.refl ..))
 | n + 1, i, s, Q, hit, hl, le, q => by
  have lt : i < xs.size := by omega
  show wpAny _ _ (pyNext (Value.ref it) >>= _) Q E s
  refine wpAny_bind (wpAny_pyNext_list_item hit hl (x := xs[i]) (by simp [lt]) fun h1 hit1 k1 => ?_)
  refine wpAny_bind (wpAny_holding (Zlu ne n (i + 1) _ _ hit1 (hl.at fun o z => k1.extBut l o ne z) (by omega) fun h2 hit2 k2 => wpAny_pure ?_))
  have hd : xs.toList.drop i = xs[i] :: xs.toList.drop (i + 1) := by simp [List.drop_eq_getElem_cons, lt]
  have z := q h2 (by rw [show i + (n + 1) = i + 1 + n by omega]; exact hit2) (k1.trans k2)
  rw [hd, List.take_succ_cons] at z
  exact z
theorem Zmv {prog : Program} {w : World} {A : Around} {E : Value -> Shared -> Prop} {s : Shared} {l : Addr} {xs : Array Value} {Q : List Value -> Shared -> Prop} (hh : A.handled = none) (hl : s.heap.IsList l xs)
  (q : ∀ h', Heap.ExtBut s.heap.objs.size s.heap h' -> Q xs.toList { s with heap := h' }) : wpAny (model prog w) A (unpackItems (.ref l) xs.size none) Q E s := by
 have ne : l ≠ s.heap.objs.size := by obtain ⟨o, ho, _⟩ := hl; exact Nat.ne_of_lt (Heap.lt_size ho)
 unfold unpackItems
 refine wpAny_bind ?_
 unfold notIterableAtAll
 refine wpAny_bind (wpAny_specialOf hl.typeIs slot_list_iter.lookup (wpAny_pure ?_))
 simp only [Bool.false_eq_true, if_false]
 refine wpAny_bind (wpAny_holding (wpAny_pyIter_list hl ?_))
 refine wpAny_bind (wpAny_holding (Zlu ne xs.size 0 _ _ ⟨_, Heap.get?_push_size _ rfl, rfl, rfl⟩ (hl.at fun o z => Heap.get?_push_of_some _ z) (by omega) fun h1 hit1 k1 => ?_))
 rw [show List.take xs.size (List.drop 0 xs.toList) = xs.toList by rw [List.drop_zero]; exact List.take_of_length_le (by simp), if_neg (by simp)]
 refine wpAny_bind (wpAny_holding (wpAny_pyNext_list_end hh hit1 (hl.at fun o z => k1.extBut l o ne (Heap.get?_push_of_some _ z)) (by simp) fun h2 k2 => ?_))
 simp only [Option.isSome_none, Bool.false_eq_true, if_false]
 exact wpAny_pure (q h2 fun b o hb e => k2 b o hb (k1.extBut b o hb (Heap.get?_push_of_some _ e)))
noncomputable def gTl (n : Nat) (g : GFs) : GF := fun d σ H => match d with
 | .ref p => match H[p]? with
  | some (.lst ds) => if ds.length = n then g ds σ H else none
  | _ => none
 | _ => none
theorem Zvl {es : List Expr} {pos : Pos} {k n : Nat} {g : GFs} (hc : X.calm = true) (h : Zyq X es g) (hn : (assignEach es X.env).length = n := by rfl) (hst : (assignEach es X.env).findIdx? (·.1) = none := by rfl) : PGf X (.Tuple es k pos) (gTl n g) := by
 rintro pins s σ H v u Q I r ⟨ι, σd, Hd, d, σd', Hd', sr, hr, rd, e, q⟩
 unfold gTl at e
 split at e
 ·rename_i p
  split at e
  ·rename_i ds eo
   split at e
   ·rename_i hl
    obtain ⟨a, rfl, ha⟩ := Zak.mp rd
    obtain ⟨vs, hv, P1⟩ := hr.obj p a _ ha eo
    cases r
    obtain ⟨its, rv, pl, hz⟩ := I.list (SqL.of hv)
    have e1 : its.toArray.size = n := by rw [List.size_toArray, ← hl, Prd.len P1, rv.length]
    rw [show assign (.Tuple es k pos) X.env (.ref a) = (do standAt pos; unpack (.ref a) (assignEach es X.env)) from rfl]
    refine wpAny_bind (wpAny_standAt ?_)
    unfold unpack
    rw [hn, hst, ← e1]
    refine wpAny_bind (wpAny_holding (Zmv (I.ok.hd hc) pl.isList fun h' hx => ?_))
    have I1 : Inv X pins σ H { s with heap := h' } := I.kept (t' := s.toks) fun b o e => hx b o (Nat.ne_of_lt (Heap.lt_size e)) e
    exact h pins _ σ H vs _ Q I1 (by simpa using rv) ⟨ι, σd, Hd, ds, σd', Hd', sr, hr, P1, e, q⟩
   ·cases e
  ·cases e
 ·cases e
end
theorem Zpp : typeLookup (.type "list") "keys" = pure none := am_miss_of_fast (by kernel_rfl)
theorem Zwb {prog : Program} {w : World} {A : Around} {E : Value → Shared → Prop} {s : Shared} {l : Addr} {ob : Obj} {xs : Array Value} {k : Nat} {Q : Option Value → Shared → Prop} (g1 : s.heap.get? l = some ob) (g2 : ob.cls = .type "list") (g3 : ob.data = .seq xs k) (g4 : ob.dict = none) (hh : A.handled = none)
  (q : ∀ h' tk, (∀ b o, s.heap.get? b = some o → h'.get? b = some o) → Q none { s with heap := h', toks := tk }) : wpAny (model prog w) A (getAttr? (.ref l) "keys") Q E s := by
 obtain ⟨c, dd, dt, sl⟩ := ob
 simp only at g2 g3 g4
 subst g2 g3 g4
 obtain ⟨hp, g, d, tk, os⟩ := s
 have ty : ∀ t, (⟨hp, g, d, t, os⟩ : Shared).TypeIs (.ref l) "list" := fun _ => ⟨_, g1, rfl⟩
 have f1 := sub_AttributeError
 have f2 := F.slot_list_getattribute.lookup
 have f3 := F.slot_list_getattribute.bind (.ref l)
 have f4 := am_list_getattr_none
 unfold getAttr? getAttrBy? getAttrBy
 repeat (any_goals (first | assumption | exact ty _ | ((with_reducible show wpAny _ _ (call (Value.builtin "list.__getattribute__") _ _) _ _ _); refine call_meets F.slot_list_getattribute (ty _) am_entry_list_getattribute (F.args_list_getattribute_2 _ _) (meets_getattribute_miss_list l xs k sl "keys" _ Zpp (by decide) (by decide)) ⟨g1, hh, fun h1 t1 e x1 => ?_⟩) | wp_step))
 obtain ⟨t2, u2, e2⟩ := x1.there
 show wpAny _ _ (getattributeRaised _ _ _ _ none false false) _ _ _
 unfold getattributeRaised
 repeat (any_goals (first | assumption | wp_step))
 exact q _ _ x1.keeps
theorem Zfz : plainId "dict.update.loop" = true := by decide +kernel
theorem Zk2 : entryFor table "dict.update.loop" = some Builtin.«dict.update.loop» := entryFor_of_tree (by kernel_rfl)
theorem Zoj {prog : Program} {w : World} {A : Around} {E : Value -> Shared -> Prop} {s : Shared} {t : Addr} {xs : Array Value} {Q : List Value -> Shared -> Prop} (h : IsTup s.heap t xs) (q : Q xs.toList s) : wpAny (model prog w) A (Builtin.Dict.pairItems (.ref t)) Q E s := by
 obtain ⟨o, g1, g2, n, g3⟩ := id h
 unfold Builtin.Dict.pairItems
 refine wpAny_bind (wpAny_typeOf h.typeIs ?_)
 rw [if_pos (by decide)]
 refine wpAny_bind (wpAny_seqItems g1 g3 (wpAny_pure ?_))
 exact q
section
variable {prog : Program} {w : World} {A : Around} {R : Result -> Shared -> Prop} {J d : Addr} {fp wr : List Addr} {n : Nat} {P : Nat -> Value -> Prop} {St : Nat -> Heap -> Prop} {Gd : Nat -> Heap -> Prop}
theorem Znk (W : Walks prog w A.in1 J fp wr n P St) (hg : ∀ i h h', Gd i h -> (∀ b o, b ∉ wr -> h.get? b = some o -> h'.get? b = some o) -> Gd i h')
  (st : ∀ i v (s : Shared), i < n -> P i v -> Gd i s.heap -> ∃ t k u, v = .ref t ∧ IsTup s.heap t #[k, u] ∧ ∀ (Q : Unit -> Shared -> Prop) (E : Value -> Shared -> Prop), (∀ h' tk, Gd (i + 1) h' -> (∀ b ∈ fp, ∀ o, s.heap.get? b = some o -> h'.get? b = some o) -> Q () { s with heap := h', toks := tk }) -> wpAny (model prog w) A.in1 (dictSet d k u) Q E s) :
  ∀ (m i : Nat) (s : Shared) (z : Int) (tz : Tok), i + m = n -> St i s.heap -> Gd i s.heap -> (∀ h' tk, Gd n h' -> R (.ok (.ret .none)) { s with heap := h', toks := tk }) →
  codeAny (model prog w) A (.builtin "dict.update.loop" ⟨[.ref d, .ref J, .int z tz, .none], []⟩) R s
 | 0, i, s, z, tz, hm, hs, gd, q => by
  refine codeAny_builtin Zk2 ?_; rw [Around.under_plainId Zfz _]
  have hi : i = n := by omega
  subst hi
  show wpAny _ A.in1 (pyNext (Value.ref J) >>= _) _ _ s
  refine wpAny_bind (W.done s _ _ hs fun h1 t1 k1 => ?_)
  refine wpAny_bind (wpAny_pure ?_)
  exact wpAny_pure (q h1 t1 (hg _ _ _ gd k1))
 | m + 1, i, s, z, tz, hm, hs, gd, q => by
  refine codeAny_builtin Zk2 ?_; rw [Around.under_plainId Zfz _]
  show wpAny _ A.in1 (pyNext (Value.ref J) >>= _) _ _ s
  refine wpAny_bind (W.item i s _ _ (by omega) hs fun v h1 t1 hv hs1 k1 => ?_)
  have g1 := hg _ _ _ gd k1
  obtain ⟨t, k, u, rfl, ht, go⟩ := st i v { s with heap := h1, toks := t1 } (by omega) hv g1
  refine wpAny_bind (wpAny_holding ?_)
  refine wpAny_bind (wpAny_tryCatch (Zoj ht ?_))
  refine wpAny_holding (go _ _ fun h2 t2 g2 k2 => ?_)
  exact wpAny_pure ⟨plainId_quiet Zfz _, Znk W hg st m (i + 1) _ _ _ (by omega) (W.frame _ _ _ hs1 k2) g2 fun h3 t3 g3 => q h3 t3 g3⟩
end
theorem Zoh {prog : Program} {w : World} {A : Around} {E : Value → Shared → Prop} {s : Shared} {l : Addr} {ob : Obj} {xs : Array Value} {kk : Nat} {Q : Value → Shared → Prop} (g1 : s.heap.get? l = some ob) (g2 : ob.cls = .type "list") (g3 : ob.data = .seq xs kk) (g4 : ob.dict = none) (hh : A.handled = none) {Gd : Nat → Heap → Prop}
  (g0 : ∀ h', (∀ b o, (s.heap.push { cls := .type "dict", data := .dict #[] }).get? b = some o → h'.get? b = some o) → Gd 0 h')
  (hg : ∀ i h h', Gd i h -> (∀ b o, b < s.heap.objs.size + 1 -> h.get? b = some o -> h'.get? b = some o) -> Gd i h')
  (st : ∀ i v (z : Shared), xs[i]? = some v -> Gd i z.heap -> ∃ t k u, v = .ref t ∧ IsTup z.heap t #[k, u] ∧ ∀ (Q : Unit -> Shared -> Prop) (E : Value -> Shared -> Prop), (∀ h' tk, Gd (i + 1) h' -> (∀ b o, b ≠ s.heap.objs.size -> z.heap.get? b = some o -> h'.get? b = some o) -> Q () { z with heap := h', toks := tk }) -> wpAny (model prog w) A.in1.in1 (dictSet s.heap.objs.size k u) Q E z)
  (q : ∀ h' tk, Gd xs.size h' → Q (.ref s.heap.objs.size) { s with heap := h', toks := tk }) : wpAny (model prog w) A (call (.type "dict") [.ref l]) Q E s := by
 refine callType_codes (Q₁ := fun a z => a = .ref s.heap.objs.size ∧ z = { s with heap := s.heap.push { cls := .type "dict", data := .dict #[] } }) F.kt_called_dict (F.kt_typeCall_dict_1 _) F.entry_dict_init (kt_code_dict_new _ ⟨rfl, rfl⟩) ?_
 rintro a z ⟨rfl, rfl⟩
 have hlt : l < s.heap.objs.size := Heap.lt_size g1
 have ty : ({ s with heap := s.heap.push { cls := .type "dict", data := .dict #[] } } : Shared).TypeIs (.ref s.heap.objs.size) "dict" := ⟨_, Heap.get?_push_size _ rfl, rfl⟩
 have ty2 : ({ s with heap := s.heap.push { cls := .type "dict", data := .dict #[] } } : Shared).TypeIs (.ref l) "list" := ⟨_, Heap.get?_push_of_some _ g1, g2⟩
 refine ⟨ty, F.args_dict_init_2 _ _, ?_⟩
 unfold Builtin.«dict.__init__» Builtin.Dict.selfAndRest; refine wpAny_bind (wpAny_bind (wpAny_notOrdered_dict ty ?_))
 show wpAny _ _ (pure (s.heap.objs.size, [Value.ref l])) _ _ { s with heap := s.heap.push { cls := .type "dict", data := .dict #[] } }
 refine wpAny_pure ?_; show wpAny _ _ (Builtin.Dict.updateFrom "dict.__init__" s.heap.objs.size (Value.ref l) [] .none) _ _ _
 unfold Builtin.Dict.updateFrom
 refine wpAny_bind (wpAny_typeOf ty2 ?_)
 rw [if_pos (by decide)]
 refine wpAny_bind (Zwb (A := A.in1.in1) (Heap.get?_push_of_some _ g1) g2 g3 g4 (show A.in1.in1.handled = none from hh) fun h1 t1 k1 => ?_)
 have l1 : h1.IsList l xs := ⟨ob, k1 _ _ (Heap.get?_push_of_some _ g1), g2, kk, g3⟩
 have sz : s.heap.objs.size + 1 ≤ h1.objs.size := by
  have e0 : (s.heap.push { cls := .type "dict", data := .dict #[] }).get? s.heap.objs.size = some { cls := .type "dict", data := .dict #[] } := Heap.get?_push_size _ rfl
  exact Heap.lt_size (k1 _ _ e0)
 simp only [Option.isNone_none, if_true]
 refine wpAny_bind (wpAny_rule ?_)
 refine wpAny_bind (wpAny_pyIter_list (s := { s with heap := h1, toks := t1 }) l1 ?_)
 refine wpAny_pure ⟨plainId_quiet Zfz _, Znk (A := A.in1) (Gd := Gd) (Walks.list (A := A.in1.in1) (show A.in1.in1.handled = none from hh) h1.objs.size l (Nat.ne_of_lt (Nat.lt_of_lt_of_le hlt (Nat.le_trans (Nat.le_succ _) sz))) xs) ?_ ?_ xs.size 0 _ _ _ (by omega) ⟨⟨_, Heap.get?_push_size _ rfl, rfl, rfl⟩, l1.at fun o z => Heap.get?_push_of_some _ z⟩ (hg _ _ _ (g0 h1 k1) fun b o _ e => Heap.get?_push_of_some _ e) fun h3 t3 g3 => ⟨rfl, q h3 t3 g3⟩⟩
 ·intro i h h' gd k
  refine hg i h h' gd fun b o hb e => k b o ?_ e
  intro hm
  have : b = h1.objs.size := by simpa using hm
  subst this
  exact absurd (Nat.lt_of_lt_of_le hb sz) (Nat.lt_irrefl _)
 ·intro i v z hi hv gd
  obtain ⟨t, k, u, e, ht, go⟩ := st i v z hv gd
  refine ⟨t, k, u, e, ht, fun Q E qq => go Q E fun h2 t2 g2 k2 => qq h2 t2 g2 fun b hb o e => k2 b o ?_ e⟩
  intro e1
  subst e1
  simp only [List.mem_cons, List.not_mem_nil, or_false] at hb
  rcases hb with hb | hb
  ·exact absurd (Nat.lt_of_lt_of_le (Nat.lt_succ_self _) sz) (by rw [← hb]; exact Nat.lt_irrefl _)
  ·exact absurd hlt (by rw [← hb]; exact Nat.lt_irrefl _)
section
variable {X : Cx}
theorem Zxq : bootBuiltins "dict" = some (.type "dict") := by decide +kernel
end
section
variable {X : Cx}
noncomputable def Yai (g : D -> List D -> HD -> Option (D × HD)) (fo : EF) : EF := fun σ H => (fo σ H).bind fun o => if Zkh o.1 o.2 = true then g o.1 [] o.2 else none
theorem Zqy {o : Expr} {name : Str} {apos cpos : Pos} {id : String} {g : D → List D → HD → Option (D × HD)} {fo : EF} (slot : Slot "list" name id) (hty : typeOf (.builtin id) = pure (.type "method_descriptor")) (hm : MtF X id g) (ho : PEf X o fo)
  (hbase : attributeBase o name X.env (eval o X.env) = eval o X.env := by rfl) (hline : (apos.endLine == cpos.line) = true := by rfl) :
  PEf X (.Call (.Attribute o name apos) [] [] cpos) (Yai g fo) := by
 refine PEi (Zyg PySem.F.plainAttrs_list slot hty hm ho hbase hline) fun σ H Q zz => ?_
 obtain ⟨ι, σd, Hd, d, Hd', s, hr, e, q⟩ := zz
 obtain ⟨⟨x, H1⟩, e1, e⟩ := Zo e
 dsimp only at e
 split at e
 ·rename_i hl
  exact ⟨ι, σd, Hd, x, H1, s, hr, e1, fun v1 H1' ι1 l1 h1 r1 => ⟨Zni h1 r1 hl, ι1, x, [], H1, d, Hd', h1, r1, .nil, e, fun v H' ι' l h r => q v H' ι' (l1.trans l) h r⟩⟩
 ·cases e
noncomputable def Zow (x : D) (ds : List D) (H : HD) : Option (D × HD) := match x, ds with
 | .ref n, [] => match H[n]? with
  | some (.lst xs) => (xs[xs.length - 1]?).map fun d => (d, H.set n (.lst xs.dropLast))
  | _ => none
 | _, _ => none
theorem Zgp {α β : Type} {F : α -> β -> Prop} : ∀ {xs : List α} {us : List β}, Paired F xs us -> Paired F xs.dropLast us.dropLast
 | _, _, .nil => .nil
 | _, _, .cons a .nil => .nil
 | _, _, .cons a (.cons b r) => .cons a (Zgp (.cons b r))
theorem Zm8 : MtF X "list.pop" Zow := by
 rintro pins s σ H x xs v us Q I rx rv ⟨ι, dx, ds, Hd, d, Hd', hr, r1, P, e, q⟩
 unfold Zow at e
 split at e
 ·rename_i n
  obtain ⟨a, rfl, ha⟩ := Zak.mp r1
  cases P
  split at e
  ·rename_i ys e1
   obtain ⟨d1, e3, e⟩ := Zm e
   obtain ⟨rfl, rfl⟩ := Prod.mk.inj e
   obtain ⟨vs, h1, P1⟩ := hr.obj n a _ ha e1
   obtain ⟨u, hu, ru⟩ := Prd.get P1 e3
   refine Zyr pins s σ H _ _ v us Q I rx rv ⟨a, vs, u, rfl, rfl, h1, by rw [← Prd.len P1]; exact hu, ?_⟩
   have L : Le X.K H ι (upd H a (.lst vs.dropLast)) ι := Le.upd (List.mem_of_getElem? ha) h1 trivial _
   exact q _ _ ι L (hr.upd ha h1 trivial ⟨_, Zaq, Zgp (Prd.mono L P1)⟩) (ru.mono L)
  ·cases e
 ·cases e
end
section
variable {X : Cx}
noncomputable def pkv : List D -> Option (List (D × List Int × D))
 | [] => some []
 | .tup [k, v] :: r => (nk k).bind fun q => (pkv r).map fun t => (k, q, v) :: t
 | _ :: _ => none
noncomputable def Zs3 (ps : List (D × List Int × D)) : List (D × D) := ps.foldl (fun acc p => Zi6 acc p.1 p.2.1 p.2.2) []
noncomputable def Zk0 : FF := fun ds H => match ds with
 | [.ref n] => match H[n]? with
  | some (.lst xs) => (pkv xs).bind fun ps => if ps.length < sizeLine then some (.ref H.length, H ++ [.dic (Zs3 ps) false]) else none
  | _ => none
 | _ => none
noncomputable def TRep (K : PySem.W.Frag) (H : Hp) (ι : List Addr) (p : D × List Int × D) (x : List Int × Addr × Value) : Prop := p.2.1 = x.1 ∧ nk p.1 = some x.1 ∧ Rep K H ι p.1 (.ref x.2.1) ∧ ∃ v, Zcn v x.2.2 ∧ Rep K H ι p.2.2 v
noncomputable def Zcv (ps : List (List Int × Addr × Value)) (i : Nat) : List (List Int × Addr × Value) := (ps.take i).foldl (fun acc p => storedH acc p.1 p.2.1 p.2.2) []
theorem Zfi {ps : List (List Int × Addr × Value)} {i : Nat} {p : List Int × Addr × Value} (h : ps[i]? = some p) : Zcv ps (i + 1) = storedH (Zcv ps i) p.1 p.2.1 p.2.2 := by
 unfold Zcv
 rw [List.take_add_one, h]
 simp
theorem Zeo (ps : List (List Int × Addr × Value)) : ∀ i, (Zcv ps i).length ≤ i
 | 0 => by simp [Zcv]
 | i + 1 => by
  cases h : ps[i]? with
  | none =>
   have e : Zcv ps (i + 1) = Zcv ps i := by unfold Zcv; rw [List.take_add_one, h]; simp
   rw [e]; exact Nat.le_succ_of_le (Zeo ps i)
  | some p => rw [Zfi h]; exact Nat.le_trans Zli (Nat.succ_le_succ (Zeo ps i))
theorem Zma {xs : List (List Int × Addr × Value)} {k : List Int} {b : Addr} {u : Value} {x : List Int × Addr × Value} (h : x ∈ storedH xs k b u) : x.2.1 = b ∨ ∃ y ∈ xs, x.2.1 = y.2.1 := by
 unfold storedH at h
 split at h
 ·obtain ⟨y, hy, rfl⟩ := List.mem_map.mp h
  refine .inr ⟨y, hy, ?_⟩
  unfold putAt; split <;> rfl
 ·rcases List.mem_append.mp h with h | h
  ·exact .inr ⟨x, h, rfl⟩
  ·simp at h; subst h; exact .inl rfl
theorem Zo7 {K : PySem.W.Frag} {H : Hp} {ι : List Addr} {kvs : List (D × List Int × D)} {ps : List (List Int × Addr × Value)} (h : Paired (TRep K H ι) kvs ps) : Paired (Zmr K H ι) (Zs3 kvs) (Zcv ps ps.length) := by
 unfold Zs3 Zcv
 rw [List.take_length]
 have gen : ∀ (a : List (D × D)) (b : List (List Int × Addr × Value)), Paired (Zmr K H ι) a b -> Paired (Zmr K H ι) (kvs.foldl (fun acc p => Zi6 acc p.1 p.2.1 p.2.2) a) (ps.foldl (fun acc p => storedH acc p.1 p.2.1 p.2.2) b) := by
  induction h with
  | nil => intro a b h; exact h
  | cons p q ih =>
   intro a b h
   rw [List.foldl_cons, List.foldl_cons]
   obtain ⟨e, e1, r, v, rv, z⟩ := p
   refine ih _ _ ?_
   rw [e]
   exact Znf h e1 r rv z
 exact gen [] [] .nil
theorem Zlv {pins : List (Addr × Obj)} {σ : L2.St} {H : Hp} {s : Shared} {ι : List Addr} (I : Inv X pins σ H s) : ∀ {xs : List D} {kvs : List (D × List Int × D)} {vs : List V} {us : List Value}, pkv xs = some kvs -> Paired (Rep X.K H ι) xs vs -> Za8 vs us -> ∃ ps : List (List Int × Addr × Value), ps.length = us.length ∧ Paired (TRep X.K H ι) kvs ps ∧ ∀ (i : Nat) (v : Value), us[i]? = some v -> ∃ t k b u, v = .ref t ∧ IsTup s.heap t #[.ref b, u] ∧ ps[i]? = some (k, b, u) ∧ (tupleKind (Zbo X.prog X.w)).is s.heap k b
 | [], kvs, _, _, e, .nil, .nil => by
  cases e
  exact ⟨[], rfl, .nil, fun i v h => by simp at h⟩
 | d :: r, kvs, _, _, e, .cons p P, .cons q W => by
  unfold pkv at e
  split at e
  ·rename_i h; cases h
  ·rename_i kd vd r' he
   obtain ⟨rfl, rfl⟩ := List.cons.inj he
   obtain ⟨k, ek, e⟩ := Zo e
   obtain ⟨ks, e1, rfl⟩ := Zm e
   obtain ⟨ps, l, P2, hx⟩ := Zlv I e1 P W
   obtain ⟨t, ws, rfl, sq, P3⟩ := Za4.mp p
   obtain ⟨v1, v2, rfl, p1, p2⟩ := prd2 P3
   obtain ⟨b, rfl⟩ := Zk3 ek p1
   cases q
   obtain ⟨its, rv, ht, hz⟩ := I.tuple sq
   cases rv with
   | cons q1 rv =>
    cases rv with
    | cons q2 rv =>
     cases rv
     cases q1
     rename_i u
     refine ⟨(k, b, u) :: ps, by simp [l], .cons ⟨rfl, ek, p1, v2, q2, p2⟩ P2, fun i v h => ?_⟩
     cases i with
     | zero => simp at h; subst h; exact ⟨t, k, b, u, rfl, ht, rfl, Zi2 I ek p1⟩
     | succ i => simp at h; obtain ⟨a1, a2, a3, a4, h1, h2, h3, h4⟩ := hx i v h; exact ⟨a1, a2, a3, a4, h1, h2, by simpa using h3, h4⟩
  ·cases e
theorem Ziu {P : Program} {w : World} {h h' : Heap} {k : List Int} {b : Addr} (x : (tupleKind (Zbo P w)).is h k b) (kp : ∀ o, h.get? b = some o -> h'.get? b = some o) : (tupleKind (Zbo P w)).is h' k b := by
 obtain ⟨o, its, n, h1, r⟩ := x
 exact ⟨o, its, n, kp o h1, r⟩
theorem Zta {P : Program} {w : World} {h : Heap} {k : List Int} {b : Addr} (x : (tupleKind (Zbo P w)).is h k b) : b < h.objs.size := by
 obtain ⟨o, its, n, h1, r⟩ := x
 exact Heap.lt_size h1
theorem Zl5 (hc : X.calm = true) (hu : X.A.units + 64 < cLine) : Zg2 X (.type "dict") Zk0 := by
 rintro pins s σ H xs us Q I rv ⟨ι, ds, Hd, d, Hd', hr, P, e, q⟩
 unfold Zk0 at e
 split at e
 ·rename_i n
  split at e
  ·rename_i ys eo
   obtain ⟨kvs, e1, e⟩ := Zo e
   split at e
   ·rename_i hlen
    obtain ⟨rfl, rfl⟩ := Prod.mk.inj (Option.some.inj e)
    obtain ⟨v, rfl, r⟩ := Zj5 P
    obtain ⟨a, rfl, ha⟩ := Zak.mp r
    obtain ⟨vs, h1, P2⟩ := hr.obj n a _ ha eo
    obtain ⟨u, rfl, ru⟩ := rv.one
    cases ru
    obtain ⟨z, its, m, rl, hl, eo2⟩ := I.lstM h1
    obtain ⟨ps, lp, PP, hps⟩ := Zlv I e1 P2 rl
    have lk : ps.length = kvs.length := (Prd.len PP).symm
    have hb : sysModules < s.heap.objs.size := Nat.lt_trans (by decide) (show mainGlobals < s.heap.objs.size from (I.mod.glob.keeps I.bk).lt)
    have hp := I.hok.fresh (Nat.le_refl s.heap.objs.size)
    refine Zoh (Gd := fun i h => (∀ b o, s.heap.get? b = some o -> h.get? b = some o) ∧ h.DictOfH (tupleKind (Zbo X.prog X.w)) s.heap.objs.size (Zcv ps i) ∧ ∀ x ∈ Zcv ps i, x.2.1 < s.heap.objs.size) eo2 rfl rfl rfl (I.ok.hd hc) ?_ ?_ ?_ ?_
    ·intro h' k
     refine ⟨fun b o e => k b o (Heap.get?_push_of_some _ e), ?_, fun x hx => by simp [Zcv] at hx⟩
     obtain ⟨o, es, ep, e2, f1, f2, f3, f4, f5⟩ := Heap.DictOfH.new (knd := tupleKind (Zbo X.prog X.w)) s.heap
     exact ⟨o, es, ep, k _ _ e2, f1, f2, f3, fun x hx => by simp [Zcv] at hx, f5⟩
    ·rintro i h h' ⟨g1, g2, g3⟩ k
     refine ⟨fun b o e => k b o (Nat.lt_succ_of_lt (Heap.lt_size e)) (g1 b o e), ?_, g3⟩
     obtain ⟨o, es, ep, e2, f1, f2, f3, f4, f5⟩ := g2
     exact ⟨o, es, ep, k _ _ (Nat.lt_succ_self _) e2, f1, f2, f3, fun x hx => Ziu (f4 x hx) fun o e => k _ o (Nat.lt_succ_of_lt (g3 x hx)) e, f5⟩
    ·rintro i v zz hv ⟨g1, g2, g3⟩
     obtain ⟨t, k, b, u, rfl, ht, hp2, hk⟩ := hps i v (by simpa using hv)
     have hi : i < ps.length := (List.getElem?_eq_some_iff.mp hp2).1
     refine ⟨t, .ref b, u, rfl, ?_, fun Q E qq => ?_⟩
     ·obtain ⟨o, e2, r2⟩ := ht
      exact ⟨o, g1 _ _ e2, r2⟩
     ·refine wpAny_dictSet_heap (knd := tupleKind (Zbo X.prog X.w)) (k := k) (show X.A.units + 2 < cLine by omega) (Ziu hk (g1 b)) g2 (fun h' d' sb => ?_) (by have := Zeo ps i; omega)
      refine qq h' _ ⟨fun b o e => sb.extBut b o (Nat.ne_of_lt (Heap.lt_size e)) (g1 b o e), ?_, ?_⟩ fun b o hb e => sb.extBut b o hb e
      ·rw [Zfi hp2]; exact d'
      ·rw [Zfi hp2]
       intro x hx
       rcases Zma hx with e | ⟨y, hy, e⟩
       ·rw [e]; exact Zta hk
       ·rw [e]; exact g3 y hy
    ·rintro h' tk ⟨g1, g2, g3⟩
     have ez : its.toArray.size = ps.length := by simp [lp]
     rw [ez] at g2
     obtain ⟨o, es, ep, e2, f1, f2, f3, f4, f5⟩ := g2
     have d3 : Zca s.heap.objs.size (Zcv ps ps.length) h' := ⟨o, es, ep, e2, f1, f2, f3, f5⟩
     have ok : Zdb X.prog X.w (upd H s.heap.objs.size (.ext (Zca s.heap.objs.size (Zcv ps ps.length)))) h' s.heap.objs.size (.ext (Zca s.heap.objs.size (Zcv ps ps.length))) := ⟨d3, ⟨o, e2⟩, fun h1 h2 d k => Zca.keep d k⟩
     refine ⟨.ref s.heap.objs.size, _, I.laid (a := s.heap.objs.size) (o := .ext (Zca s.heap.objs.size (Zcv ps ps.length))) (t' := tk) g1 (Nat.le_refl _) ok, rfl, ?_⟩
     have hl2 : ι.length = Hd.length := hr.len
     have L := Le.fresh1 (K := X.K) (ι := ι) hp (.ext (Zca s.heap.objs.size (Zcv ps ps.length)))
     have PA := Zo7 PP
     refine q _ _ (ι ++ [s.heap.objs.size]) L (hr.new hp ⟨beq_eq_false_iff_ne.mpr (Ne.symm (Nat.ne_of_lt hb)), ?_, _, by rw [if_neg (by simp)]; exact Zaq, Prd.imp PA fun p x _ z => ⟨z.1, z.2.1.mono L, let ⟨v, z1, z2⟩ := z.2.2; ⟨v, z1, z2.mono L⟩⟩⟩) (Zak.mpr ⟨_, rfl, by rw [← hl2]; simp⟩)
     have := Zeo ps ps.length
     rw [Prd.len PA]; omega
   ·cases e
  ·cases e
 ·cases e
end
end DL
namespace DL
open PySem PySem.Spec PyProof.Rows L2 PySem.W
section
variable {X : Cx}
noncomputable def Zgc (x : D) (ds : List D) (H : HD) : Option (D × HD) := match x, ds with
 | .ref n, [d] => match H[n]? with
  | some (.lst _) => (dat (.ref n) H).bind fun p => (dat d H).bind fun q => (Ze3 p).map fun ps => (.int (ps.countP fun z => PyData.eqv z q : Nat), H)
  | _ => none
 | _, _ => none
theorem Zoc (hu : X.A.units + 64 < cLine) : MtF X "list.count" Zgc := by
 rintro pins s σ H x xs v us Q I rx rv ⟨ι, dx, ds, Hd, d, Hd', hr, r1, P, e, q⟩
 unfold Zgc at e
 split at e
 ·rename_i n d1
  split at e
  ·rename_i zs hn
   obtain ⟨z, rfl, rz⟩ := Zj5 P
   obtain ⟨u, rfl, ru⟩ := rv.one
   obtain ⟨p, e1, e⟩ := Zo e
   obtain ⟨p2, e2, e⟩ := Zo e
   obtain ⟨ys, e3, e⟩ := Zm e
   obtain ⟨rfl, rfl⟩ := Prod.mk.inj e
   obtain ⟨t1, c1, k1⟩ := Zcd e1
   obtain ⟨t2, c2, k2⟩ := Zcd e2
   obtain ⟨as, ra⟩ := Zbr I hr _ _ t1 r1 rx
   obtain ⟨bs, rb⟩ := Zbr I hr _ _ t2 rz ru
   obtain ⟨ws, rfl⟩ : ∃ ws, p = .list ws := by
    rw [toP] at t1
    simp only [hn] at t1
    obtain ⟨ws, _, rfl⟩ := Zm t1
    exact ⟨ws, rfl⟩
   cases e3
   simp only [PyData.canLay0] at c1
   simp only [PyData.depth] at k1
   cases ra with
   | list h1 h2 h3 h4 =>
    rename_i a o its m as2
    obtain ⟨cl, dd, dt, sl⟩ := o
    cases h2
    cases h3
    refine call_meets PySem.F.slot_list_count ⟨_, h1, rfl⟩ PySem.F.entry_list_count (PySem.F.args_list_count_2 _ _) (SeqAt.list_countAt _ _ _ dd sl u _) ⟨h1, SeqAt.items_eqAt h4 rb c1 c2 (by omega), ?_⟩
    exact ⟨.int _, H, I.tok _, ⟨_, by rw [Zoz h4 c1]⟩, q _ H ι Le.refl hr (by simp)⟩
  ·cases e
 ·cases e
end
end DL
namespace DL
open PySem PySem.Spec PyProof.Rows L2
section
variable {X : Cx}
noncomputable def Zf5 (i j : Int) : Nat := (i - j).toNat
noncomputable def Ziz (i j c : Int) : Prop := -(2 ^ 60) ≤ i ∧ i < 2 ^ 60 ∧ -(2 ^ 60) ≤ j ∧ j < 2 ^ 60 ∧ c = -1
instance (i j c : Int) : Decidable (Ziz i j c) := by unfold Ziz; exact inferInstance
noncomputable def iRB (f : AF) : ItF := fun σ H => (f σ H).bind fun p => match p.1 with
 | [.int i, .int j, .int c] => if Ziz i j c then some ((Zfg i c (Zf5 i j), []), p.2) else none
 | _ => none
theorem Znh {i j c : Int} (h : Ziz i j c) : Builtin.Range.rangeSize i j c = (Zf5 i j : Nat) := by
 obtain ⟨_, _, _, _, rfl⟩ := h
 unfold Builtin.Range.rangeSize Zf5
 rw [if_neg (by decide)]
 split
 ·rw [show -(-1 : Int) = 1 from rfl, Int.ediv_one]; omega
 ·omega
theorem Zrh {i j c : Int} (h : Ziz i j c) : Builtin.Range.small i j c = true := by
 have e := Znh h
 obtain ⟨h1, h2, h3, h4, rfl⟩ := h
 have hb : (Zf5 i j : Int) ≤ 2 ^ 61 := by unfold Zf5; omega
 unfold Builtin.Range.small
 rw [e]
 have hp : ¬ ((-1 : Int) > 0) := by decide
 simp only [Builtin.Range.rangeFitsLong, Bool.and_eq_true, Bool.or_eq_true, decide_eq_true_eq, beq_iff_eq, hp, if_false]
 unfold Zf5
 omega
theorem Zo6 {tg : Expr} {a b c : Expr} {f : AF} {p pos : Pos} (hg : Gl X "range") (hm : X.mg "range" = none) (ha : PAf X [a, b, c] f) (hs : starEach [a, b, c] X.env = (false, eval a X.env) :: starEach [b, c] X.env := by rfl) (hpl : (backTo pos (starEach [b, c] X.env)).any (·.1) = false := by rfl) :
  PIf X tg (.Call (.Name "range" p) [a, b, c] [] pos) (iRB f) := by
 rintro pins s σ H R I ⟨ι, σd, Hd, xs, own, Hd', sr, hr, e, q⟩
 obtain ⟨⟨ds, H1⟩, e1, e⟩ := Zo e
 dsimp only at e
 split at e
 ·rename_i i j k
  split at e
  ·rename_i hk
   cases e
   refine Call_ (Zhn I hg hm boot_range (PyProof.Rows.callWith_type1 (thn (ha pos pins s σ H (fun vs H' => vs = [.int i, .int j, .int k] ∧ R (It3 i k (Zf5 i j)) H') I ⟨ι, σd, Hd, _, _, sr, hr, e1, fun ws H' ι' l h P => ?_⟩) fun us s1 ⟨vs, H2, I2, r2, q2⟩ => ?_) hs hpl))
   ·cases P with
    | cons r1 P =>
     obtain ⟨v, v', rfl, r, r'⟩ := prd2 P
     simp at r1 r r'
     subst r1 r r'
     refine ⟨rfl, q _ H' ι' l h ⟨fun i H2 ι2 Hd2 l2 h2 _ hi => (show i < _ by simpa [Zfg] using hi), fun i' H2 ι2 Hd2 d x H3 l2 h2 _ hd y => ?_, fun i H2 ι2 Hd2 l2 h2 _ hi => (show _ ≤ i by simpa [Zfg] using hi)⟩⟩
     obtain ⟨rfl, rfl⟩ := y
     unfold Zfg at hd
     rw [List.getElem?_map] at hd
     obtain ⟨k', h1', rfl⟩ := Zm hd
     rw [List.getElem?_eq_some_iff] at h1'
     obtain ⟨hl', h1'⟩ := h1'
     simp at h1'
     subst h1'
     exact ⟨ι2, Le.refl, h2, by simp⟩
   ·obtain ⟨rfl, q2⟩ := q2
    cases r2 with
    | cons r1 r2 =>
     obtain ⟨u1, u2, rfl, ru1, ru2⟩ := Ztb r2
     obtain ⟨t1, rfl⟩ := r1
     obtain ⟨t2, rfl⟩ := ru1
     obtain ⟨t3, rfl⟩ := ru2
     have hc := hk
     obtain ⟨b1, b2, b3, b4, b5⟩ := hk
     refine call_range_3 (by omega) ?_ (.inl (PyProof.noPylong_small (by omega)))
     refine wpAny_pyIter_range (IsRange.new ..) (Zrh hc) ?_
     have I1 : Inv X pins σ H2 { s1 with heap := s1.heap.push { cls := .type "range", data := .fields #[.int i t1, .int j t2, .int k t3] } } := I2.kept (t' := s1.toks) fun b o e => Heap.get?_push_of_some _ e
     refine ⟨_, [_], _, It3 i k (Zf5 i j), H2, rfl, I1.kept (t' := s1.toks) fun b o e => Heap.get?_push_of_some _ e, Zmo _ i k _, ?_, fun b hb => ?_, q2⟩
     ·have z1 : i + ((0 : Nat) : Int) * k = i := by simp
      have z2 : ((Zf5 i j : Nat) : Int) - ((0 : Nat) : Int) = Builtin.Range.rangeSize i j k := by rw [Znh hc]; simp
      show IsRangeIter _ _ (i + ((0 : Nat) : Int) * k) (((Zf5 i j : Nat) : Int) - ((0 : Nat) : Int)) k
      rw [z1, z2]
      exact Heap.get?_push_size _ rfl
     ·have e : b = (s1.heap.push { cls := .type "range", data := .fields #[.int i t1, .int j t2, .int k t3] }).objs.size := by simpa using hb
      subst e
      exact I1.fpOk (Nat.le_refl _) (I1.hok.fresh (Nat.le_refl _))
  ·cases e
 ·cases e
end
end DL
namespace L2
open PySem PySem.Spec PyProof.Rows
theorem Zdb.here {P : Program} {w : World} {H : Hp} {h : Heap} {a : Addr} {o : HO} (x : Zdb P w H h a o) : ∃ ob, h.get? a = some ob := by
 cases o with
 | lst xs => obtain ⟨_, its, n, _, e⟩ := x; exact ⟨_, e⟩
 | tup xs => obtain ⟨_, its, _, ob, e, _⟩ := x; exact ⟨_, e⟩
 | dK kvs => obtain ⟨_, _, vs, _, ob, es, ep, e, _⟩ := x; exact ⟨_, e⟩
 | dT kvs => obtain ⟨_, _, xs, _, ob, es, ep, e, _⟩ := x; exact ⟨_, e⟩
 | set S n => obtain ⟨ob, es, ep, t, e, _⟩ := x; exact ⟨_, e⟩
 | ins C dx fs => obtain ⟨_, _, _, e, _⟩ := x; exact ⟨_, e⟩
 | own y => obtain ⟨ob, e⟩ := x; exact ⟨_, e⟩
 | xd fs => obtain ⟨mA, ⟨od, es, ep, e, _⟩, _⟩ := x; exact ⟨_, e⟩
 | rng lo hi => obtain ⟨t, u, v, e⟩ := x; exact ⟨_, e⟩
 | frz ob u => obtain ⟨e, _⟩ := x; exact ⟨_, e⟩
 | tbl ps => exact ⟨_, x⟩
 | met f y => exact ⟨_, x⟩
 | ext φ => obtain ⟨_, e, _⟩ := x; exact e
end L2
namespace DL
open PySem PySem.Spec PyProof.Rows L2 PySem.W
structure Fly (l : List Env) (H H1 : Hp) (h0 h1 : Heap) (a : Addr) (C : Value) : Prop where
 new : h0.get? a = none
 fly : ∃ (B : Heap) (a0 : Value), Heap.FlyingW B l a C a0 h1 ∧ (∀ b o, h0.get? b = some o -> b ∉ frs l -> ∃ o', B.get? b = some o' ∧ (H b = none -> o' = o)) ∧ ∀ b ho, H1 b = some ho -> ∃ o, h1.get? b = some o ∧ B.get? b = some o
noncomputable def CXe (P : Program) (w : World) : CXT := fun outer H s E e s' => ∃ (a : Addr) (C : Value) (H1 : Hp), e = .ref a ∧ E C none H1 ∧ s'.os = s.os ∧ AllBare s'.gens ∧ Un (frs outer) [] H H1 s.heap s'.heap ∧ HOk P w H1 s'.heap ∧ Fly outer H H1 s.heap s'.heap a C
structure ExcT (K : PySem.W.Frag) (mg : Str -> Option Value) (x : Str) (C : Addr) : Prop where
 bound : mg x = some (.ref C)
 kp : PySem.W.keepIn K (.ref C) = true
 inK : ∃ (bm : List Value) (B newId initId : String), PySem.W.excIn K C bm newId = true ∧ ExcBaseFacts B newId initId bm
theorem Zzi {K : PySem.W.Frag} {h : Heap} {mg : Str -> Option Value} {x : Str} {C : Addr} {bmB : List Value} {newId : String} (X : K.In h) (e : mg x = some (.ref C)) (q : PySem.W.excIn K C bmB newId = true) : OwnCls x C bmB newId mg h := by
 have z := q
 unfold PySem.W.excIn at z
 split at z <;> try cases z
 rename_i d1 c1 l1 look
 split at z <;> try cases z
 rename_i D tl s0 s1 s2 s3 nid s5 e1 e2
 rw [Bool.and_eq_true, Bool.and_eq_true, Bool.and_eq_true, Bool.and_eq_true, Bool.and_eq_true] at z
 obtain ⟨⟨⟨⟨⟨a1, a2⟩, a3⟩, a4⟩, a5⟩, a6⟩ := z
 have a1 : D = C := beq_iff_eq.mp a1
 have a2 : nid = newId := beq_iff_eq.mp a2
 have a6 := beq_iff_eq.mp a6
 subst a1 a2
 have here := X _ _ look
 have a7 : l1 = #[s0, s1, s2, s3, some (.builtin nid), s5] := by rw [← e2]
 have a8 : c1.hasDel = false := by simpa using a3
 subst a7
 refine ⟨e, tl, c1.ns, c1.name, c1.qualname, c1.bases, c1.hasDict, c1.slotNames, c1.subclasses, c1.abstract, c1.collection, d1, s0, s1, s2, s3, s5, _, ?_, .of_isNs (isNs_of_in X a5), nsMap_none_of_in X a5 a6, tail_of_in X a4⟩
 rw [here]
 unfold excClassObj
 rw [← e1, ← a8]
theorem Zqp {P : Program} {w : World} {l : List Env} {H H1 : Hp} {h0 h1 h2 B : Heap} (u : Un (frs l) [] H H1 h0 h1) (ok : HOk P w H1 h1) (bo : ∀ b o, h0.get? b = some o -> b ∉ frs l -> ∃ o', B.get? b = some o' ∧ (H b = none -> o' = o)) (bt : ∀ b ho, H1 b = some ho -> ∃ o, h1.get? b = some o ∧ B.get? b = some o)
  (st : B.StaysIn h2) (up : h1.UpToSlots h2) (ff : h1.FunFrames B l) : Un (frs l) [] H H1 h0 h2 ∧ HOk P w H1 h2 := by
 have fram : ∀ b o, b ∈ frs l -> h1.get? b = some o -> ∃ sl, h2.get? b = some { o with slots := sl } := fun b o z eb => by
  obtain ⟨_, o', g1, g3⟩ := ff.mem z
  rw [eb] at g1
  cases g1
  exact up b o eb g3
 refine ⟨⟨fun b o e n nb _ => ?_, fun b o e n hb hx => ?_, u.free, fun b o e hx => ?_, u.tups, u.frzs, u.tbls⟩, fun b ho e => ?_⟩
 ·obtain ⟨o', g, z⟩ := bo b o e nb
  rw [z n] at g
  exact st b o g
 ·obtain ⟨sl, g⟩ := u.slot b o e n hb hx
  obtain ⟨sl', g'⟩ := fram b _ hb g
  exact ⟨sl', g'⟩
 ·by_cases z : b ∈ frs l
  ·obtain ⟨o1, g⟩ := u.there b o e hx
   obtain ⟨sl, g'⟩ := fram b o1 z g
   exact ⟨_, g'⟩
  ·obtain ⟨o', g, _⟩ := bo b o e z
   exact ⟨o', st b o' g⟩
 ·refine (ok b ho e).stay (fun c v hc g => ?_) (fun _ z => z) (fun _ _ z => z)
  have tk : ∃ hc, H1 c = some hc := by
   rcases hc with rfl | hc
   ·exact ⟨_, e⟩
   ·exact ⟨_, hc⟩
  obtain ⟨hc', tk⟩ := tk
  obtain ⟨o, g1, g2⟩ := bt c hc' tk
  rw [g] at g1
  cases g1
  exact st c v g2
section
variable {P : Program} {w : World} {K : PySem.W.Frag} {mg : Str -> Option Value} {base : Heap} {N : List Str} {qual : Str} {scope : Scope} {f : Addr} {cd : Value} {A : Around} {outer : List Env} {s s1 : Shared} {H H1 : Hp} {E : XK} {pins : List (Addr × Obj)} {σ : L2.St}
theorem Zqi {h' : Heap} {e C : Addr} {vs : List Value} (I : Inv (Ze2 (CXe P w) P w K mg base N qual scope f cd A outer s H E) pins σ H1 s1) (hx : Heap.MadeExcOf s1.heap h' e (.ref C) vs) (q : E (.ref C) none H1) :
  (Ze2 (CXe P w) P w K mg base N qual scope f cd A outer s H E).xe (.ref e) { s1 with heap := h' } := by
 have hS := I.stack
 have hF : s1.heap.FunFrames (hideAll s1.heap (frs (Ze2 (CXe P w) P w K mg base N qual scope f cd A outer s H E).stack)) (Ze2 (CXe P w) P w K mg base N qual scope f cd A outer s H E).stack := funFrames_hide hS fun env he b hb => List.mem_filterMap.mpr ⟨env, he, hb⟩
 have fr := I.ok.frames
 refine wpAny_leaves_madeW (base := hideAll s1.heap (frs (Ze2 (CXe P w) P w K mg base N qual scope f cd A outer s H E).stack)) fr rfl (fun b o z => of_hideAll _ z) hF hx fun h2 t f1 f2 f3 f4 => ?_
 have nf : ∀ b ho, H1 b = some ho -> b ∉ frs (Ze2 (CXe P w) P w K mg base N qual scope f cd A outer s H E).stack := fun b ho eb z => by rw [I.stkFree b z] at eb; cases eb
 have kp : ∀ b o, s1.heap.get? b = some o -> b ∉ frs (Ze2 (CXe P w) P w K mg base N qual scope f cd A outer s H E).stack -> h2.get? b = some o := fun b o eb z => f1.1 b o (hideAll_get _ eb z)
 have old : ∀ b o, s.heap.get? b = some o -> b ∉ frs outer -> b ∉ frs (Ze2 (CXe P w) P w K mg base N qual scope f cd A outer s H E).stack := fun b o eb z y => by
  rcases List.mem_cons.mp (I.stkSub b y) with rfl | y
  ·exact absurd (Nat.lt_of_lt_of_le (Heap.lt_size eb) I.ok.above) (Nat.lt_irrefl _)
  ·exact z y
 have fram : ∀ b o, b ∈ frs (Ze2 (CXe P w) P w K mg base N qual scope f cd A outer s H E).stack -> s1.heap.get? b = some o -> ∃ sl, h2.get? b = some { o with slots := sl } := fun b o z eb => by
  obtain ⟨_, o', h1, h3⟩ := hS.mem z
  rw [eb] at h1
  cases h1
  exact f4 b o (hx.keeps b o eb) h3
 refine ⟨e, .ref C, H1, rfl, q, I.os, I.bare, ⟨fun b o eb n nb _ => kp b o (I.base.keep b o eb n nb (by rintro z; cases z)) (old b o eb nb), fun b o eb n hb _ => ?_, fun b o eb n _ => I.base.free b o eb n (by intro z; cases z), fun b o eb _ => ?_, I.base.tups, I.base.frzs, I.base.tbls⟩, fun b ho eb => ?_, ⟨?_, _, _, f1, fun b o eb nb => ?_, fun b ho eb => ?_⟩⟩
 ·obtain ⟨sl, g⟩ := I.base.slot b o eb n hb (by intro z; cases z)
  obtain ⟨sl', g'⟩ := fram b _ (List.mem_cons_of_mem _ hb) g
  exact ⟨sl', g'⟩
 ·obtain ⟨o1, g⟩ := I.base.there b o eb (by intro z; cases z)
  by_cases z : b ∈ frs (Ze2 (CXe P w) P w K mg base N qual scope f cd A outer s H E).stack
  ·obtain ⟨sl, g'⟩ := fram b o1 z g
   exact ⟨_, g'⟩
  ·exact ⟨o1, kp b o1 g z⟩
 ·exact (I.hok b ho eb).stay (fun c u hc g => kp c u g (by
   rcases hc with rfl | hc
   ·exact nf _ _ eb
   ·exact nf _ _ hc)) (fun _ z => z) (fun _ _ z => z)
 ·cases z : s.heap.get? e with
  | none => rfl
  | some o =>
   obtain ⟨o1, g⟩ := I.base.there e o z (by intro y; cases y)
   rw [hx.new] at g; cases g
 ·obtain ⟨o1, g⟩ := I.base.there b o eb (by intro z; cases z)
  refine ⟨o1, hideAll_get _ g (old b o eb nb), fun n => ?_⟩
  have k1 := I.base.keep b o eb n nb (by intro z; cases z)
  exact Option.some.inj (g.symm.trans k1)
 ·obtain ⟨o, g⟩ := (I.hok b ho eb).here
  exact ⟨o, kp b o g (nf b ho eb), hideAll_get _ g (nf b ho eb)⟩
theorem Zqm {s' : Shared} {H0 : Hp} {a C : Addr} (I : Inv (Ze2 (CXe P w) P w K mg base N qual scope f cd A outer s H E) pins σ H0 s1) (os : s'.os = s1.os) (bare : AllBare s'.gens) (un : Un (frs (Ze2 (CXe P w) P w K mg base N qual scope f cd A outer s H E).stack) [] H0 H1 s1.heap s'.heap) (hok : HOk P w H1 s'.heap)
  (fl : Fly (Ze2 (CXe P w) P w K mg base N qual scope f cd A outer s H E).stack H0 H1 s1.heap s'.heap a (.ref C)) (q : E (.ref C) none H1) : (Ze2 (CXe P w) P w K mg base N qual scope f cd A outer s H E).xe (.ref a) s' := by
 obtain ⟨B, a0, fly, bo, bt⟩ := fl.fly
 have fr := I.ok.frames
 refine wpAny_leaves_onW fr rfl fly fun h2 f1 up => ?_
 obtain ⟨un2, ok2⟩ := Zqp un hok bo bt f1.1 up fly.2.2.1
 have old : ∀ b o, s.heap.get? b = some o -> b ∉ frs outer -> b ∉ frs (Ze2 (CXe P w) P w K mg base N qual scope f cd A outer s H E).stack := fun b o eb z y => by
  rcases List.mem_cons.mp (I.stkSub b y) with rfl | y
  ·exact absurd (Nat.lt_of_lt_of_le (Heap.lt_size eb) I.ok.above) (Nat.lt_irrefl _)
  ·exact z y
 have u : Un (frs (Ze2 (CXe P w) P w K mg base N qual scope f cd A outer s H E).stack) [] H H1 s.heap h2 := (I.base.mono (fun b hb => List.mem_cons_of_mem _ hb) (fun b hb => hb)).trans un2
 refine ⟨a, .ref C, H1, rfl, q, os.trans I.os, bare, ⟨fun b o eb n nb hx => u.keep b o eb n (old b o eb nb) hx, fun b o eb n hb hx => u.slot b o eb n (List.mem_cons_of_mem _ hb) hx, u.free, u.there, u.tups, u.frzs, u.tbls⟩, ok2, ⟨?_, B, a0, f1, fun b o eb nb => ?_, fun b ho eb => ?_⟩⟩
 ·cases z : s.heap.get? a with
  | none => rfl
  | some o =>
   obtain ⟨o1, g⟩ := I.base.there a o z (by intro y; cases y)
   rw [fl.new] at g; cases g
 ·obtain ⟨o1, g⟩ := I.base.there b o eb (by intro z; cases z)
  obtain ⟨o', g', z⟩ := bo b o1 g (old b o eb nb)
  refine ⟨o', g', fun n => ?_⟩
  rw [z (I.base.free b o eb n (by intro z; cases z))]
  have k1 := I.base.keep b o eb n nb (by intro z; cases z)
  exact Option.some.inj (g.symm.trans k1)
 ·obtain ⟨o, g, g'⟩ := bt b ho eb
  exact ⟨o, f1.1 b o g', g'⟩
end
noncomputable abbrev XFs := SD -> HD -> Option HD
noncomputable abbrev XFF := List D -> HD -> Option HD
noncomputable def Yax (X : Cx) (C : Addr) (H1 : Hp) (e : Value) (s' : Shared) : Prop := ∃ pins σ1 a, e = .ref a ∧ ((∃ s1 h' vs, Inv X pins σ1 H1 s1 ∧ Heap.MadeExcOf s1.heap h' a (.ref C) vs ∧ s' = { s1 with heap := h' }) ∨
 ∃ s1 H0, Inv X pins σ1 H0 s1 ∧ s'.os = s1.os ∧ AllBare s'.gens ∧ Un (frs X.stack) [] H0 H1 s1.heap s'.heap ∧ HOk X.prog X.w H1 s'.heap ∧ Fly X.stack H0 H1 s1.heap s'.heap a (.ref C))
noncomputable def rdX (X : Cx) (C : Addr) (b : XFs) : TS := fun _ σ H => ∃ ι σd Hd Hd', SRep X.K H ι σ σd ∧ HRep X.K H ι Hd ∧ b σd Hd = some Hd' ∧
 ∀ H1 ι' e s', Le X.K H ι H1 ι' -> HRep X.K H1 ι' Hd' -> Yax X C H1 e s' -> X.xe e s'
noncomputable def PXf (X : Cx) (C : Addr) (sts : List Stmt) (b : XFs) : Prop := PSs X sts (rdX X C b)
noncomputable def Zyd (f : SF) (b : XFs) : XFs := fun σ H => (f σ H).bind fun r => match r.1 with
 | .nx => b r.2.1 r.2.2
 | _ => none
noncomputable def xIf (t : TF) (b : XFs) : XFs := fun σ H => (t σ H).bind fun r => if r.1 then b σ r.2 else none
noncomputable def Zfr (f : EF) : XFs := fun σ H => (f σ H).map fun r => r.2
noncomputable def Zl6 (n N : Nat) (b : XFs) : XFF := fun ds H => if ds.length = n then b (ds.map some ++ List.replicate (N - ds.length) none) H else none
section
variable {X : Cx} {C : Addr} {st : Stmt} {sts : List Stmt} {e c : Expr} {pos np cpos : Pos} {x : Str}
theorem Zr4 : PSs X sts fun _ _ _ => False := fun _ _ _ _ _ _ h => h.elim
theorem Zw1 {f : SF} {b : XFs} (h1 : PSf X st f) (h2 : PXf X C sts b) : PXf X C (st :: sts) (Zyd f b) := by
 refine Zyu (Zhb h1 h2) fun E σ H zz => ?_
 obtain ⟨ι, σd, Hd, Hd', s, hr, e, q⟩ := zz
 obtain ⟨⟨f1, σ1, H1⟩, e1, e⟩ := Zo e
 refine ⟨ι, σd, Hd, f1, σ1, H1, s, hr, e1, fun σ' H' ι' l h ss => ?_⟩
 cases f1 with
 | nx => exact ⟨ι', σ1, H1, Hd', ss, h, e, fun H2 ι2 ex s2 l2 => q H2 ι2 ex s2 (l.trans l2)⟩
 | bk => cases e
 | ct => cases e
 | rt d => cases e
theorem px_if {t : TF} {as : List Stmt} {b : XFs} (hc : PTf X c t) (ha : PXf X C as b) : PXf X C (.If c as [] pos :: sts) (xIf t b) := by
 refine Zyu (Zhb (Zzn hc ha (Zr4 (sts := []))) (Zr4 (sts := sts))) fun E σ H zz => ?_
 obtain ⟨ι, σd, Hd, Hd', s, hr, e, q⟩ := zz
 obtain ⟨⟨z, H1⟩, e1, e⟩ := Zo e
 refine ⟨ι, σd, Hd, z, H1, s, hr, e1, fun H' ι' l h => ?_⟩
 cases z with
 | true =>
  rw [if_pos rfl]
  exact ⟨ι', σd, H1, Hd', s.mono l, h, by simpa using e, fun H2 ι2 ex s2 l2 => q H2 ι2 ex s2 (l.trans l2)⟩
 | false => simp at e
theorem Zt2 {fe : EF} (hc : X.calm = true) (T : ExcT X.K X.mg x C) (hg : Gl X x) (hf : PAf X [e] (Zaa fe Zae)) (hdb : (x == ("__debug__" : Str)) = false := by decide) (he : starEach [e] X.env = (false, eval e X.env) :: starEach [] X.env := by exact Zat rfl) :
  PS X (.Raise (some (.Call (.Name x np) [e] [] cpos)) none pos) (rdX X C (Zfr fe)) := by
 rintro pins s σ H D I ⟨ι, σd, Hd, Hd', ss, hr, eq, q⟩
 obtain ⟨⟨d, H1⟩, e1, e2⟩ := Zm eq
 have e2 : H1 = Hd' := e2
 subst e2
 obtain ⟨bm0, B, newId, initId, k1, FB⟩ := T.inK
 obtain ⟨tl, N, nm, qn, bs, hdct, sn, sub, ab, col, dd, k0, k1', k2, k3, k5, mN, hC, hN, hni, TL⟩ := (Zzi I.ok.mod.kin T.bound k1).obj
 have pl : (backTo cpos (starEach [e] X.env)).any (·.1) = false := by rw [he]; rfl
 refine wpAny_Raise_call_subT (C := C) (nm := nm) (q := qn) (N := N) (bs := bs) (bm := tl) (hdct := hdct) (sn := sn) (sub := sub) (ab := ab) (col := col) (dd := dd) (k0 := k0) (k1 := k1') (k2 := k2) (k3 := k3) (k5 := k5) FB (mN := mN) (TL.hasType FB.hasBase) (I.ok.hd hc) pl hni (Zh8 I hg T.bound ⟨rfl, ?_⟩ hdb)
 have ea : Zaa fe Zae σd Hd = some ([d], H1) := by unfold Zaa; rw [e1]; rfl
 have a1 := hf cpos pins s σ H (fun vs H' => vs.length = 1 ∧ ∃ ι', Le X.K H ι H' ι' ∧ HRep X.K H' ι' H1) I ⟨ι, σd, Hd, [d], H1, ss, hr, ea, fun vs H' ι' l h P => ⟨(Prd.len P).symm, ι', l, h⟩⟩
 rw [he] at a1 ⊢
 refine Calls.evalArgs_plain (wpAny_mono a1 (fun us s2 ⟨vs, H2, I2, r2, ⟨hl, ι', l, h⟩⟩ => ⟨rfl, ?_, I2.bk _ _ hC, hN.keeps I2.bk, TL.keeps I2.bk, fun h' ex hm => ?_⟩) fun _ _ y => y)
 ·rw [← r2.length, hl, PySem.sizeLine_eq]; omega
 ·exact q H2 ι' (.ref ex) _ l h ⟨pins, σ, ex, rfl, .inl ⟨s2, h', us, I2, hm, rfl⟩⟩
theorem Zsp {fe : EF} (hc : X.calm = true) (T : ExcT X.K X.mg x C) (hg : Gl X x) (hf : PAf X [e] (Zaa fe Zae)) (hdb : (x == ("__debug__" : Str)) = false := by decide) (he : starEach [e] X.env = (false, eval e X.env) :: starEach [] X.env := by exact Zat rfl) :
  PXf X C (.Raise (some (.Call (.Name x np) [e] [] cpos)) none pos :: sts) (Zfr fe) := by
 refine Zyu (Zhb (Zt2 hc T hg hf hdb he) (Zr4 (sts := sts))) fun E σ H h => ?_
 exact h
noncomputable def spX (K : PySem.W.Frag) (C : Addr) (n : Nat) (F : XFF) : Sp := fun vs H _ E => ∃ ι ds Hd Hd', ds.length = n ∧ HRep K H ι Hd ∧ Paired (Rep K H ι) ds vs ∧ F ds Hd = some Hd' ∧ ∀ H1 ι', Le K H ι H1 ι' -> HRep K H1 ι' Hd' -> E (.ref C) none H1
end
section
variable {P : Program} {w : World} {K : PySem.W.Frag} {mg : Str -> Option Value} {base : Heap}
theorem Ztz {N : List Str} {qual : Str} {scope : Scope} {f : Addr} {cd : Value} {A : Around} {outer : List Env} {s s' : Shared} {H H1 : Hp} {E : XK} {C : Addr} {e : Value} (z : Yax (Ze2 (CXe P w) P w K mg base N qual scope f cd A outer s H E) C H1 e s') (q : E (.ref C) none H1) :
  (Ze2 (CXe P w) P w K mg base N qual scope f cd A outer s H E).xe e s' := by
 obtain ⟨pins, σ1, a, rfl, z⟩ := z
 rcases z with ⟨s1, h', vs, I, hm, rfl⟩ | ⟨s1, H0, I, os, bare, un, hok, fl⟩
 ·exact Zqi I hm q
 ·exact Zqm I os bare un hok fl q
theorem fx_f {x qual : Str} {st : Stmt} {f C : Addr} {fd : FuncData} {N ps : List Str} {k : Nat} {b : XFs} (F : Fun K x qual st f fd) (S : FnScope N ps (Zad st))
  (hb : ∀ (cdv : Value) (A : Around) (outer : List Env) (s : Shared) (H : Hp) (E : XK), Room k (A.deeper (envOfC qual (Zad st) s.heap.objs.size f cdv)) →
   PXf (Ze2 (CXe P w) P w K mg base N qual (Zad st) f cdv A outer s H E) C (Zbe st) b) : FnOk P w K mg base (CXe P w) (k + 1) f fd ps (spX K C ps.length (Zl6 ps.length N.length b)) := by
 obtain ⟨oc, od, kV, doc, pm, an, cdv, ct, osl, rfl, lk, hcd⟩ := F.ex
 refine Zzu lk hcd S (fun vs H Q E ⟨ι, ds, Hd, Hd', hl, _, r, _⟩ => by rw [← Prd.len r]; exact hl) fun A outer s H vs Q E hr zz => ?_
 obtain ⟨ι, ds, Hd, Hd', hl, hh, r, e, q⟩ := zz
 refine ⟨_, hb cdv A outer s H E ?_, ?_⟩
 ·exact hr
 unfold Zl6 at e
 rw [if_pos hl] at e
 refine ⟨ι, _, Hd, Hd', ?_, hh, e, fun H1 ι' ex s' l h z => Ztz z (q H1 ι' l h)⟩
 refine ⟨by simp [L2.start, Prd.len r], fun i d0 h0 => ?_⟩
 unfold L2.start
 by_cases hi : i < ds.length
 ·rw [List.getElem?_append_left (by simpa using hi), List.getElem?_map] at h0
  cases ed : ds[i]? with
  | none => rw [ed] at h0; cases h0
  | some d1 =>
   rw [ed] at h0
   cases h0
   obtain ⟨v, hv, rv⟩ := Prd.get r ed
   refine ⟨v, ?_, rv⟩
   rw [List.getElem?_append_left (by rw [List.length_map, ← Prd.len r]; exact hi), List.getElem?_map, hv]
   rfl
 ·rw [List.getElem?_append_right (by simpa using hi), List.getElem?_replicate] at h0
  split at h0 <;> cases h0
end
end DL
namespace L2
open PySem PySem.Spec PyProof.Rows
theorem Zw0 {X : Cx} {pins : List (Addr × Obj)} {σ : St} {H : Hp} {s : Shared} {M : Model} {A : Around} {E : Value -> Shared -> Prop} {i : Nat} {x : Str} {pos : Pos} {Q : Unit -> Shared -> Prop} (I : Inv X pins σ H s) (hN : X.N.Nodup) (hi : X.N[i]? = some x) (hl : X.env.kindOf x = some .local)
  (h : ∀ s', Inv X pins (σ.set i none) H s' -> Q () s') : wpAny M A (do bindName X.env x .none; unbindBehindTheSuite X.env x pos) Q E s := by
 obtain ⟨m, hn, hv⟩ := id I.loc
 refine wpAny_nameGoes_keeps hl hn (by rw [I.ok.kind]; rfl) fun h' v hn' hs => h _ ?_
 have old : ∀ b o, X.s₀.heap.get? b = some o -> b ≠ X.env.locals := fun b o e => Nat.ne_of_lt (Nat.lt_of_lt_of_le (Heap.lt_size e) I.ok.above)
 have tr : ∀ b ho, H b = some ho -> b ≠ X.env.locals := fun b ho e z => by rw [z, I.free] at e; cases e
 refine ⟨I.ok, I.os, I.bare, ⟨fun b o e n hb hx => (hs.2 b (old b o e)).trans (I.base.keep b o e n hb hx), fun b o e n hb hx => ?_, I.base.free, fun b o e hx => ?_, I.base.tups, I.base.frzs, I.base.tbls⟩, ⟨_, hn', fun j y w e1 e2 e3 => ?_⟩, fun y c e => ?_, I.free, I.freeC, fun p hp => ?_, fun b ho e => ?_, by simpa using I.len⟩
 ·obtain ⟨sl, g⟩ := I.base.slot b o e n hb hx
  exact ⟨sl, (hs.2 b (old b o e)).trans g⟩
 ·obtain ⟨o', g⟩ := I.base.there b o e hx
  exact ⟨o', (hs.2 b (old b o e)).trans g⟩
 ·by_cases hj : j = i
  ·subst hj
   rw [List.getElem?_set] at e2
   split at e2
   ·split at e2 <;> cases e2
   ·rename_i z; exact absurd rfl z
  ·rw [List.getElem?_set_ne (Ne.symm hj)] at e2
   obtain ⟨u, r, q⟩ := hv j y w e1 e2 e3
   refine ⟨u, r, ?_⟩
   rcases q with ⟨k, z⟩ | ⟨k, c, z, g⟩
   ·have ne : y ≠ x := fun z => hj (Zjg hN e1 (z ▸ hi))
    exact .inl ⟨k, (if_neg ne).trans z⟩
   ·exact .inr ⟨k, c, z, g.sameBut hs (I.cne y c z)⟩
 ·obtain ⟨w, g⟩ := I.cell y c e
  exact ⟨w, g.sameBut hs (I.cne y c e)⟩
 ·obtain ⟨e, n, ne, nf, d⟩ := I.pin p hp
  exact ⟨(hs.2 p.1 ne).trans e, n, ne, nf, d⟩
 ·refine (I.hok b ho e).stay (fun c u hc g => (hs.2 c ?_).trans g) (fun _ z => z) (fun _ _ z => z)
  rcases hc with rfl | hc
  ·exact tr _ _ e
  ·exact tr _ _ hc
end L2
namespace DL
open PySem PySem.Spec PyProof.Rows L2 PySem.W
structure ExcL (K : PySem.W.Frag) (C : Addr) : Prop where
 ga : findIn K (.ref C) "__getattribute__" = some (some (.builtin "BaseException.__getattribute__"))
 gr : findIn K (.ref C) "__getattr__" = some none
 cl : findIn K (.ref C) "__class__" = some (some (.builtin "object.__class__"))
 gt : specialIn K (.builtin "object.__class__") "__get__" = some (some (.builtin "getset_descriptor.__get__"))
 tk : takesIn K (.builtin "object.__class__") = some true
 mr : mroIn K C (.type "object") = some true
 sb : subIn K (.ref C) (.type "BaseException") = some true
 cs : (clsIn K C).isSome = true
section
variable {prog : Program} {w : World} {A : Around} {E : Value -> Shared -> Prop} {s : Shared} {K : PySem.W.Frag} {x C : Addr} {ox : Obj}
structure ExcO (h : Heap) (x : Addr) (ox : Obj) (C : Addr) : Prop where
 at_ : h.get? x = some ox
 cls : ox.cls = .ref C
theorem ExcO.type {M : Model} {h : Heap} (I : ExcO h x ox C) : Looks M h (typeOf (.ref x)) (.ref C) := by rw [← I.cls]; exact (Looks.ld I.at_).andThen .now
theorem Zsu {M : Model} {h : Heap} (L : ExcL K C) (X : K.In h) : Looks M h (Builtin.ObjectAttr.find (.ref x) (.ref C) "__class__") (.bind (.builtin "getset_descriptor.__get__") (.builtin "object.__class__")) := by
 have a1 := looks_findIn (M := M) X L.cl
 have a2 := looks_specialIn (M := M) X L.gt
 have a3 := looks_takesIn (M := M) X L.tk
 unfold Builtin.ObjectAttr.find
 refine a1.andThen ?_
 refine Looks.andThen (t := Builtin.ObjectAttr.getOf (some (.builtin "object.__class__"))) a2 ?_
 refine Looks.andThen (t := Builtin.ObjectAttr.dataDescriptor? (some (.builtin "object.__class__")) (some (.builtin "getset_descriptor.__get__"))) (a := some (.builtin "getset_descriptor.__get__", .builtin "object.__class__")) ?_ (Looks.tag .now)
 unfold Builtin.ObjectAttr.dataDescriptor?
 exact a3.andThen .now
theorem Zv9 {R : Result → Shared → Prop} {tp : Value} (X : K.In s.heap) (I : ExcO s.heap x ox C) (hm : mroIn K C (.type "object") = some true) (z : R (.ok (.ret (.ref C))) s) : codeAny (model prog w) A (.call (.builtin "getset_descriptor.__get__") ⟨[.builtin "object.__class__", .ref x, tp], []⟩) R s := by
 obtain ⟨h1, g1, d1, t1, o1⟩ := s
 have a0 := I.type (M := model prog w)
 have a1 := looks_mroIn (M := model prog w) X hm
 refine codeAny_call_builtin KF.slot_gs.plain KF.entry_gs ?_
 refine KF.slot_gs.check _ _ _ _ _ _ _ _ KF.type_class (KF.args_gs _ _ _) ?_
 (unfold Builtin.«getset_descriptor.__get__» Builtin.Getset_descriptor.descrGet; rw [dga_obj]; refine wpAny_bind (wpAny_pure ?_); unfold Builtin.Getset_descriptor.descrGetter Builtin.Getset_descriptor.descrCheckInstance Builtin.Getset_descriptor.descrNameAndClass isInstance; simp only [KF.owner_class]; repeat lk)
 have e1 := KF.entry_class
 refine ⟨Code.quiet_builtin _ (by decide +kernel), codeAny_builtin e1 ?_⟩
 (unfold Builtin.«object.__class__» shownTypeOf; repeat lk); exact z
theorem Zro {Q : Option Value → Shared → Prop} (L : ExcL K C) (X : K.In s.heap) (I : ExcO s.heap x ox C) (q : Q (some (.ref C)) { s with toks := s.toks + 1 }) : wpAny (model prog w) A (getAttr? (.ref x) "__class__") Q E s := by
 obtain ⟨hh, g, d, t, os⟩ := s
 have L0 := I.type (M := model prog w)
 have L1 := looks_findIn (M := model prog w) X L.ga
 have L2 := looks_findIn (M := model prog w) X L.gr
 have LF := Zsu (x := x) (M := model prog w) L X
 have LS := looks_subIn (M := model prog w) X L.sb
 unfold getAttr? getAttrBy? getAttrBy
 refine wpAny_bind (wpAny_mkText (wpAny_bind (wpAny_attempt (wpAny_holding (wpAny_bind (L0.at (wpAny_bind (L1.at ?_))))))))
 show wpAny _ _ (if (onTheHeap (Value.ref C) && (Value.builtin "BaseException.__getattribute__" == Value.builtin "object.__getattribute__")) = true then _ else _) _ _ _
 have n2 : (Value.builtin "BaseException.__getattribute__" == Value.builtin "object.__getattribute__") = false := by decide +kernel
 rw [if_neg (by rw [n2, Bool.and_false]; exact Bool.false_ne_true)]
 unfold getAttrByItsOwn hookBefore
 rw [if_pos (by rfl)]
 refine wpAny_bind (L2.at (wpAny_bind (wpAny_attempt (wpAny_holding ?_))))
 unfold callGetattribute
 rw [if_neg (by exact Bool.false_ne_true)]
 unfold boundAndCalled
 have LI : Looks (model prog w) hh (isInstance (.ref x) (.type "BaseException")) true := L0.andThen LS
 rw [PySem.F.attr_ValueError.ga.bind (.ref x)]
 refine wpAny_bind (wpAny_pure ?_)
 show wpAny _ _ (call (.builtin "BaseException.__getattribute__") [.ref x, .str (Str.ofString "__class__") t]) _ _ _
 refine wpAny_call (codeAny_call_builtin PySem.F.attr_ValueError.ga.plain PySem.F.entry_bexc_ga ?_)
 have b1 : builtinKind "BaseException.__getattribute__" = some .slot := by decide +kernel
 have b2 : splitId "BaseException.__getattribute__" = some ("BaseException", "__getattribute__") := by decide +kernel
 have b3 := PySem.F.args_bexc_ga (.ref x) (.str (Str.ofString "__class__") t)
 simp only [checkBuiltinCall, b1, b2]
 refine wpAny_bind (LI.at ?_)
 repeat (first | (with_reducible refine L0.at ?_) | (with_reducible refine LF.at ?_) | wp_step)
 exact Zv9 (ox := ox) X I L.mr (wpAny_pure (handed_on rfl (wpAny_pure q)))
theorem Zrl (L : ExcL K C) : ∃ c dd cd sl, K.lookup C = some ⟨c, dd, .cls cd, sl⟩ := by
 have z := L.cs
 unfold clsIn at z
 split at z
 ·rename_i e; exact ⟨_, _, _, _, e⟩
 ·cases z
theorem Znt (L : ExcL K C) : KitX K (.ref x) (.ref C) (fun h => ExcO h x ox C) where
 ty := fun _ _ _ I => I.type
 it := fun M h X _ => by
  obtain ⟨c, dd, cd, sl, e⟩ := Zrl L
  intro A1 Q1 E1 s1 kp z
  show wpAny M A1 (isType (.ref C)) Q1 E1 s1
  unfold isType loadHead
  refine wpAny_bind (wpAny_loadPart (kp C _ (X C _ e)) ?_)
  exact wpAny_pure z
 ne := fun h tp dd its n sl X g => by
  obtain ⟨c, d1, cd, s1, e⟩ := Zrl L
  cases z : (Value.ref C == Value.ref tp) with
  | false => rfl
  | true =>
   have y : C = tp := Value.ref.inj (beq_iff_eq.mp z)
   subst y
   have y := X C _ e
   rw [g] at y
   cases y
 ca := fun X I z => Zro L X I z
end
theorem Zyv {x : V} {r : List V} {l : List Value} (h : Za8 (x :: r) l) : ∃ b t, l = b :: t ∧ Zcn x b ∧ Za8 r t := by
 cases h with
 | cons p P => exact ⟨_, _, rfl, p, P⟩
section
variable {X : Cx}
theorem Zpr : ∀ {cs : List Addr} {its : List Value}, Za8 (cs.map .ref) its -> its = cs.map .ref := by
 intro cs
 induction cs with
 | nil => intro its rv; cases rv; rfl
 | cons a r ih =>
  intro its rv
  obtain ⟨b, t, rfl, p1, p2⟩ := Zyv rv
  have p1 : b = Value.ref a := p1
  rw [p1, ih p2]; rfl
noncomputable def Zud (cs : List Addr) : TA := fun _ H Q => Q (cs.map .ref) H
theorem Zxo : PA X [] (Zud []) := Zlz
theorem Zk9 {x : Str} {c : Addr} {cs : List Addr} {es : List Expr} {p : Pos} (hg : Gl X x) (hm : X.mg x = some (.ref c)) (h : PA X es (Zud cs)) (hd : (x == ("__debug__" : Str)) = false := by decide) (hs : starEach (.Name x p :: es) X.env = (false, eval (.Name x p) X.env) :: starEach es X.env := by rfl) : PA X (.Name x p :: es) (Zud (c :: cs)) :=
 Zek (Zmp (v := .ref c) hg hm rfl hd) h hs
end
section
variable {X : Cx}
theorem Zyp {st : Stmt} {t : TS} (h : PS X.nox st t) : PS X st t := by
 intro pins s σ H D I q
 refine wpAny_mono (h pins s σ H D (I.wish _) q) (fun f s1 z => ?_) fun _ _ z => z.elim
 cases f with
 | next => obtain ⟨σ1, H1, I1, z⟩ := z; exact ⟨σ1, H1, I1.unwish, z⟩
 | brk => obtain ⟨σ1, H1, I1, z⟩ := z; exact ⟨σ1, H1, I1.unwish, z⟩
 | cont => obtain ⟨σ1, H1, I1, z⟩ := z; exact ⟨σ1, H1, I1.unwish, z⟩
 | ret u => obtain ⟨v, σ1, H1, I1, r, z⟩ := z; exact ⟨v, σ1, H1, I1.unwish, r, z⟩
theorem Zzc {es : List Expr} {t : TA} (h : PA X.nox es t) : PA X es t := by
 intro pos pins s σ H Q I q
 refine wpAny_mono (h pos pins s σ H Q (I.wish _) q) (fun us s1 z => ?_) fun _ _ z => z.elim
 obtain ⟨vs, H1, I1, r, z⟩ := z
 exact ⟨vs, H1, I1.unwish, r, z⟩
theorem Zsy {C : Addr} {st : Stmt} {sts : List Stmt} {f : SF} {b : XFs} (h1 : PSf X.nox st f) (h2 : PXf X C sts b) : PXf X C (st :: sts) (Zyd f b) := Zw1 (Zyp h1) h2
theorem Zyl {C : Addr} {c : Expr} {as sts : List Stmt} {pos : Pos} {t : TF} {b : XFs} (hc : PTf X.nox c t) (ha : PXf X C as b) : PXf X C (.If c as [] pos :: sts) (xIf t b) := px_if (PT.nox hc) ha
theorem Zpy {C : Addr} {sts : List Stmt} {e : Expr} {pos np cpos : Pos} {x : Str} {fe : EF} (hc : X.calm = true) (T : ExcT X.K X.mg x C) (hg : Gl X x) (hf : PAf X.nox [e] (Zaa fe Zae)) (hdb : (x == ("__debug__" : Str)) = false := by decide) (he : starEach [e] X.env = (false, eval e X.env) :: starEach [] X.env := by exact Zat rfl) :
  PXf X C (.Raise (some (.Call (.Name x np) [e] [] cpos)) none pos :: sts) (Zfr fe) := Zsp hc T hg (Zzc hf) hdb he
end
theorem Zgv {K : PySem.W.Frag} {hp : Heap} {mg : Str -> Option Value} {n : Str} {c : Addr} (X : K.In hp) (G : hp.Ns mainGlobals mg) (e : nsIn K mainGlobals n = some (some (.ref c))) : mg n = some (.ref c) := PySem.W.mg_of X G e
end DL
namespace DL
open PySem PySem.Spec PyProof.Rows L2
open PySem.W (KasT kas_rev kas_asc kas_desc kas_tail3 kas_descPart kas_count kas_place kas_bin kas_sort)
section
variable {n : Nat}
variable (h0 : 0 < n)
include h0
end
section
variable {X : Cx}
noncomputable def strD : FF := fun ds H => match ds with
 | [.int i] => if 0 ≤ i ∧ i ≤ 1000000000 then some (.str (toString i), H) else none
 | _ => none
theorem Zqg : Zg2 X (.type "str") strD := by
 rintro pins s σ H xs us Q I rv ⟨ι, ds, Hd, d, Hd', hr, P, e, q⟩
 unfold strD at e
 split at e
 ·obtain ⟨v, rfl, r⟩ := Zj5 P
  simp at r
  subst r
  split at e
  ·rename_i hz
   cases e
   refine Zkn pins s σ H _ us Q I rv ⟨_, rfl, ?_, q _ H ι Le.refl hr (by simp)⟩
   rename_i i
   have h1 : i.natAbs ≤ 1000000000 := by omega
   by_cases h0 : i.natAbs = 0
   ·rw [h0]; decide
   ·refine (Nat.log2_lt h0).mpr (Nat.lt_of_le_of_lt h1 ?_)
    exact Nat.lt_of_lt_of_le (by decide : 1000000000 < 2 ^ 30) (Nat.pow_le_pow_right (by decide) (by decide))
  ·cases e
 ·cases e
end
section
variable {X : Cx}
theorem Zuo {h : Heap} {vs : Array Value} {xs : List PyData} {as : List Addr} {d : PyData} (rs : ReadsAll h vs.toList xs as) (hxs : PyData.canLayAll0 xs = true) :
  vs.toList.map (fun y => PyData.eqv (SeqAt.readOf h y) d) = xs.map fun z => PyData.eqv z d := by
 have e := SeqAt.readsAll_map xs _ _ hxs rs
 rw [← e, List.map_map]
 rfl
noncomputable def Zga (x : D) (ds : List D) (H : HD) : Option (D × HD) := match x, ds with
 | .ref n, [d] => match H[n]? with
  | some (.lst _) => (dat (.ref n) H).bind fun p => (dat d H).bind fun q => (Ze3 p).bind fun ps => (ps.findIdx? fun z => PyData.eqv z q).bind fun j => if j ≤ 1000000 then some (.int (j : Nat), H) else none
  | _ => none
 | _, _ => none
theorem Zop (hu : X.A.units + 64 < cLine) : MtF X "list.index" Zga := by
 rintro pins s σ H x xs v us Q I rx rv ⟨ι, dx, ds, Hd, d, Hd', hr, r1, P, e, q⟩
 unfold Zga at e
 split at e
 ·rename_i n d1
  split at e
  ·rename_i zs hn
   obtain ⟨z, rfl, rz⟩ := Zj5 P
   obtain ⟨u, rfl, ru⟩ := rv.one
   obtain ⟨p, e1, e⟩ := Zo e
   obtain ⟨p2, e2, e⟩ := Zo e
   obtain ⟨ys, e3, e⟩ := Zo e
   obtain ⟨j, e4, e⟩ := Zo e
   split at e
   ·rename_i hj
    cases e
    obtain ⟨t1, c1, k1⟩ := Zcd e1
    obtain ⟨t2, c2, k2⟩ := Zcd e2
    obtain ⟨as, ra⟩ := Zbr I hr _ _ t1 r1 rx
    obtain ⟨bs, rb⟩ := Zbr I hr _ _ t2 rz ru
    obtain ⟨ws, rfl⟩ : ∃ ws, p = .list ws := by
     rw [toP] at t1
     simp only [hn] at t1
     obtain ⟨ws, _, rfl⟩ := Zm t1
     exact ⟨ws, rfl⟩
    cases e3
    simp only [PyData.canLay0] at c1
    simp only [PyData.depth] at k1
    cases ra with
    | list h1 h2 h3 h4 =>
     rename_i a o its m as2
     obtain ⟨cl, dd, dt, sl⟩ := o
     cases h2
     cases h3
     obtain ⟨hj2, f1, f2⟩ := List.findIdx?_eq_some_iff_getElem.mp e4
     have em := Zuo (d := p2) h4 c1
     have hsz : its.size = ys.length := by
      have := congrArg List.length em
      simpa using this
     have at' : ∀ k (hk : k < its.size), PyData.eqv (SeqAt.readOf s.heap its[k]) p2 = PyData.eqv (ys[k]'(by omega)) p2 := by
      intro k hk
      have := congrArg (fun l => l[k]?) em
      simp only [List.getElem?_map] at this
      rw [List.getElem?_eq_getElem (by simpa using hk), List.getElem?_eq_getElem (by omega)] at this
      simpa using this
     refine call_meets PySem.F.slot_list_index ⟨_, h1, rfl⟩ PySem.F.entry_list_index (PySem.F.args_list_index_2 _ _) (SeqAt.list_indexAt _ _ _ dd sl u _ j (by omega) (by omega) ?_ ?_) ⟨h1, SeqAt.items_eqAt h4 rb c1 c2 (by omega), ?_⟩
     ·rw [at' j (by omega)]; exact f1
     ·intro m hm hmj
      rw [at' m hm]
      have := f2 m hmj
      simpa using this
     ·exact ⟨.int _, H, I.tok _, ⟨_, rfl⟩, q _ H ι Le.refl hr (by simp)⟩
   ·cases e
  ·cases e
 ·cases e
noncomputable abbrev JF := SD -> HD -> Str -> Option (Str × HD)
noncomputable def PJf (X : Cx) (es : List Expr) (f : JF) : Prop := ∀ (pins : List (Addr × Obj)) (s : Shared) (σ : L2.St) (H : Hp) (out : Str) (Q : VK), Inv X pins σ H s -> out.length ≤ sizeLine →
 (∃ ι σd Hd y Hd', SRep X.K H ι σ σd ∧ HRep X.K H ι Hd ∧ f σd Hd out = some (y, Hd') ∧ ∀ H' ι', Le X.K H ι H' ι' -> HRep X.K H' ι' Hd' -> Q (.str y) H') →
 wpAny (model X.prog X.w) X.A (joinParts out (evalEach es X.env)) (EP X pins σ Q) X.xe s
noncomputable def jNil : JF := fun _ H out => some (out, H)
noncomputable def jC (c : Str) (f : JF) : JF := fun σ H out => if (out ++ c).length ≤ sizeLine then f σ H (out ++ c) else none
theorem Zx7 : PJf X [] jNil := by
 rintro pins s σ H out Q I hl ⟨ι, σd, Hd, y, Hd', ss, hr, e, q⟩
 cases e
 exact joinParts_nilE (joinParts_nil ⟨.str out, H, I.tok _, ⟨_, rfl⟩, q H ι Le.refl hr⟩ hl)
theorem pj_c {c : Str} {es : List Expr} {f : JF} {j : Nat} {p : Pos} (h : PJf X es f) : PJf X (.Constant (.str c) j p :: es) (jC c f) := by
 rintro pins s σ H out Q I hl ⟨ι, σd, Hd, y, Hd', ss, hr, e, q⟩
 unfold jC at e
 split at e
 ·rename_i hz
  refine joinParts_consE (joinParts_cons (thn (Zu9 (X := X) pins s σ H (fun v H2 => v = .str c ∧ H2 = H) I ⟨rfl, rfl⟩) fun u2 s2 z => ?_))
  obtain ⟨v2, H2, I2, r2, rfl, rfl⟩ := z
  obtain ⟨t2, rfl⟩ := r2
  exact ⟨hz, h pins s2 σ H2 _ Q I2 hz ⟨ι, σd, Hd, y, Hd', ss, hr, e, q⟩⟩
 ·cases e
noncomputable def eJ (f : JF) : EF := fun σ H => (f σ H Str.empty).map fun p => (.str p.1, p.2)
theorem Ztd {a b : Expr} {es : List Expr} {f : JF} {p : Pos} (h : PJf X (a :: b :: es) f) : PEf X (.JoinedStr (a :: b :: es) p) (eJ f) := by
 rintro pins s σ H Q I ⟨ι, σd, Hd, d, Hd', ss, hr, e, q⟩
 obtain ⟨⟨y, H1⟩, e1, e⟩ := Zm e
 cases e
 exact JoinedStr_many (h pins s σ H Str.empty Q I (by decide) ⟨ι, σd, Hd, y, H1, ss, hr, e1, fun H' ι' l h => q _ H' ι' l h (by simp)⟩)
end
end DL
namespace DL
open PySem PySem.Spec PyProof.Rows L2 PySem.W
noncomputable def Zf8 (s : Stmt) : List Stmt := match s with
 | .ClassDef _ _ _ body _ _ _ _ _ _ _ => body
 | _ => []
noncomputable def Zs5 (f : Str) (v : D) : List (Str × D) -> List (Str × D)
 | [] => [(f, v)]
 | (g, x) :: r => if g = f then (g, v) :: r else (g, x) :: Zs5 f v r
section
variable {K : Frag} {H : Hp} {ι : List Addr}
theorem Zqb {f : Str} {d : D} {v : V} (r : Rep K H ι d v) : ∀ {fs : List (Str × D)} {xs : List (Str × V)}, Paired (Yas K H ι) fs xs -> Paired (Yas K H ι) (Zs5 f d fs) (Zii f v xs)
 | _, _, .nil => .cons ⟨rfl, r⟩ .nil
 | _, _, .cons (a := (g, x)) (b := (g', y)) ⟨h1, h2⟩ t => by
  have h1 : g = g' := h1
  subst h1
  unfold Zs5 Zii
  by_cases e : g = f
  ·rw [if_pos e, if_pos e]; exact .cons ⟨rfl, r⟩ t
  ·rw [if_neg e, if_neg e]; exact .cons ⟨rfl, h2⟩ (Zqb r t)
theorem Zfm {f : Str} : ∀ {fs : List (Str × D)} {xs : List (Str × V)}, Paired (Yas K H ι) fs xs -> (fs.lookup f = none -> xs.lookup f = none) ∧ ∀ d, fs.lookup f = some d -> ∃ v, xs.lookup f = some v ∧ Rep K H ι d v
 | _, _, .nil => ⟨fun _ => rfl, fun d e => (by cases e)⟩
 | _, _, .cons (a := (g, x)) (b := (g', y)) ⟨h1, h2⟩ t => by
  have h1 : g = g' := h1
  subst h1
  rw [List.lookup_cons, List.lookup_cons]
  cases f == g with
  | true => exact ⟨fun e => (by cases e), fun d e => (by cases e; exact ⟨y, rfl, h2⟩)⟩
  | false => exact Zfm t
end
structure Kl (K : Frag) (cn : Str) (fl : List Str) : Prop where
 ex : ∃ C, nsIn K mainGlobals cn = some (some (.ref C)) ∧ Cls K C ∧ ∀ f ∈ fl, Zgn K C f
noncomputable def Zh6 (cn : Str) (fo : EF) (f : Str) : EF := fun σ H => (fo σ H).bind fun o => match o.1 with
 | .ref n => match o.2[n]? with
  | some (.obj c fs) => if c = cn then (fs.lookup f).map fun d => (d, o.2) else none
  | _ => none
 | _ => none
noncomputable def Zkg (cn : Str) (fo fv : EF) (f : Str) : SF := fun σ H => (fv σ H).bind fun y => (fo σ y.2).bind fun o => match o.1 with
 | .ref n => match o.2[n]? with
  | some (.obj c fs) => if c = cn ∧ fs.length < 1000 then some (.nx, σ, o.2.set n (.obj c (Zs5 f y.1 fs))) else none
  | _ => none
 | _ => none
section
variable {X : Cx} {o e value : Expr} {es : List Expr} {cn f : Str} {fl : List Str} {fo fv : EF} {pos pos' : Pos}
theorem Kl.at {K : Frag} (T : Kl K cn fl) {C : Addr} (h : nsIn K mainGlobals cn = some (some (.ref C))) : Cls K C ∧ ∀ f ∈ fl, Zgn K C f := by
 obtain ⟨C', h1, h2, h3⟩ := T.ex
 rw [h] at h1
 cases h1
 exact ⟨h2, h3⟩
theorem Zvz (T : Kl X.K cn fl) (hf : f ∈ fl) (ho : PEf X o fo) (hb : attributeBase o f X.env (eval o X.env) = eval o X.env := by rfl) : PEf X (.Attribute o f pos) (Zh6 cn fo f) := by
 refine PEi (Zx6 ho hb) fun σ H Q zz => ?_
 obtain ⟨ι, σd, Hd, d, Hd', s, hr, e, q⟩ := zz
 obtain ⟨⟨x, H1⟩, e1, e0⟩ := Zo e
 clear e
 have e := e0
 clear e0
 refine ⟨ι, σd, Hd, x, H1, s, hr, e1, fun v H' ι' l h r => ?_⟩
 dsimp only at e
 split at e
 ·rename_i n
  split at e
  ·rename_i c fs en
   split at e
   ·rename_i hc
    subst hc
    obtain ⟨d', el, e⟩ := Zm e
    cases e
    obtain ⟨a, rfl, ha⟩ := Zak.mp r
    obtain ⟨a', ha', C, dx, xs, hns, hH, hp⟩ := h.at en
    rw [ha] at ha'
    cases ha'
    obtain ⟨v', l', r'⟩ := (Zfm hp).2 _ el
    exact ⟨a, C, dx, xs, v', rfl, hH, (T.at hns).1, (T.at hns).2 f hf, l', q v' H' ι' l h r'⟩
   ·cases e
  ·cases e
 ·cases e
theorem Zvs (T : Kl X.K cn fl) (hf : f ∈ fl) (ho : PEf X o fo) (hv : PEf X value fv) (hs : swapsWith value (some (.Attribute o f pos')) pos.line X.env = pure false := by rfl) : PSf X (.Assign [.Attribute o f pos'] value pos) (Zkg cn fo fv f) := by
 refine PSi (Yav ho hv hs) fun E σ H zz => ?_
 obtain ⟨ι, σd, Hd, fl', σd', Hd', s, hr, e, q⟩ := zz
 obtain ⟨⟨y, H1⟩, e1, e0⟩ := Zo e
 clear e
 obtain ⟨⟨x, H2⟩, e2, e⟩ := Zo e0
 clear e0
 refine ⟨ι, σd, Hd, y, H1, s, hr, e1, fun vy H' ι' l h ry => ⟨ι', σd, H1, x, H2, s.mono l, h, e2, fun vx H'' ι'' l2 h2 rx => ?_⟩⟩
 dsimp only at e
 split at e
 ·rename_i n
  split at e
  ·rename_i c fs en
   split at e
   ·rename_i hc
    obtain ⟨rfl, hlen⟩ := hc
    cases e
    obtain ⟨a, rfl, ha⟩ := Zak.mp rx
    obtain ⟨a', ha', C, dx, xs, hns, hH, hp⟩ := h2.at en
    rw [ha] at ha'
    cases ha'
    have ll : Le X.K H'' ι'' (upd H'' a (.ins C dx (Zii f vy xs))) ι'' := Le.upd (List.mem_of_getElem? ha) hH True.intro _
    have hp2 : Paired (Yas X.K (upd H'' a (.ins C dx (Zii f vy xs))) ι'') (Zs5 f y fs) (Zii f vy xs) := Prd.imp (Zqb (ry.mono l2) hp) fun p x _ z => ⟨z.1, z.2.mono ll⟩
    exact ⟨a, C, dx, xs, rfl, hH, (T.at hns).1, (T.at hns).2 f hf, by rw [← Prd.len hp]; exact hlen, q _ _ ι'' ((l.trans l2).trans ll) (h2.upd ha hH True.intro ⟨C, dx, _, hns, Zaq, hp2⟩) (s.mono ((l.trans l2).trans ll))⟩
   ·cases e
  ·cases e
 ·cases e
end
structure FnM (P : Program) (w : World) (K : Frag) (mg : Str -> Option Value) (base : Heap) (k : Nat) (cn m : Str) (ps : List Str) (F : FF) : Prop where
 ex : ∃ C f fd, nsIn K mainGlobals cn = some (some (.ref C)) ∧ Cls K C ∧ Meth K C m f ∧ FnOk P w K mg base CX0 k f fd ps (spF K ps.length F) ∧ Zfe K fd ps []
structure FnI (P : Program) (w : World) (K : Frag) (mg : Str -> Option Value) (base : Heap) (k : Nat) (cn : Str) (ps : List Str) (F : FF) : Prop where
 ex : ∃ C f fd, mg cn = some (.ref C) ∧ nsIn K mainGlobals cn = some (some (.ref C)) ∧ Mk K C f ∧ FnOk P w K mg base CX0 k f fd ps (spF K ps.length F) ∧ Zfe K fd ps []
noncomputable def Zdd (cn m : Str) (n : Nat) (F : FF) (fo : EF) (fa : AF) : EF := fun σ H => (fo σ H).bind fun o => match o.1 with
 | .ref k => match o.2[k]? with
  | some (.obj c fs) => if c = cn ∧ fs.lookup m = none then (fa σ o.2).bind fun p => if p.1.length + 1 = n then F (.ref k :: p.1) p.2 else none else none
  | _ => none
 | _ => none
noncomputable def eMk (cn : Str) (n : Nat) (F : FF) (fa : AF) : EF := fun σ H => (fa σ H).bind fun p => if p.1.length + 1 = n then (F (.ref p.2.length :: p.1) (p.2 ++ [.obj cn []])).bind fun r => match r.1 with
 | .non => some (.ref p.2.length, r.2)
 | _ => none
 else none
section
variable {X : Cx} {o e : Expr} {es : List Expr} {cn m x : Str} {k n : Nat} {ps : List Str} {F : FF} {fo : EF} {fa : AF} {pos apos p : Pos}
theorem Zre {C f : Addr} {σ : L2.St} {H : Hp} {Q : VK} (hns : nsIn X.K mainGlobals cn = some (some (.ref C))) (z : rdE X.K (Zdd cn m ps.length F fo fa) σ H Q) : Zvx C m (spF X.K ps.length F) [] E0 (rdE X.K fo) (rdA X.K fa) σ H Q := by
 obtain ⟨ι, σd, Hd, d, Hd', s, hr, e, q⟩ := z
 obtain ⟨⟨x, H1⟩, e1, e0⟩ := Zo e
 clear e
 have e := e0
 clear e0
 refine ⟨ι, σd, Hd, x, H1, s, hr, e1, fun v H' ι' l h r => ?_⟩
 dsimp only at e
 split at e
 ·rename_i n
  split at e
  ·rename_i c fs en
   split at e
   ·rename_i hc
    obtain ⟨rfl, hlk⟩ := hc
    obtain ⟨⟨ds, H2⟩, e2, e0⟩ := Zo e
    clear e
    have e := e0
    clear e0
    dsimp only at e
    split at e
    ·rename_i hl
     obtain ⟨a, rfl, ha⟩ := Zak.mp r
     obtain ⟨a', ha', C', dx, xs, hns', hH, hp⟩ := h.at en
     rw [ha] at ha'
     cases ha'
     rw [hns] at hns'
     cases hns'
     refine ⟨a, dx, xs, rfl, hH, (Zfm hp).1 hlk, ι', σd, H1, ds, H2, s.mono l, h, e2, fun vs H'' ι'' l2 h2 P => ?_⟩
     exact ⟨ι'', .ref n :: ds, H2, d, Hd', hl, h2, .cons (r.mono l2) (by rw [List.append_nil]; exact P), e, fun v2 H3 ι3 l3 h3 r3 => q v2 H3 ι3 ((l.trans l2).trans l3) h3 r3⟩
    ·cases e
   ·cases e
  ·cases e
 ·cases e
theorem Znc {pl : Sem Bool} (G : FnM X.prog X.w X.K X.mg X.base k cn m ps F) (hr : Room k X.A) (ho : PEf X o fo) (ha : PAf X (e :: es) fa)
  (hst : starEach (e :: es) X.env = (false, eval e X.env) :: starEach es X.env := by exact Zat rfl) (hpl : (backTo pos (starEach es X.env)).any (·.1) = false := by exact Zct rfl)
  (ht : eval (.Call (.Attribute o m apos) (e :: es) [] pos) X.env = (do
   let ov ← eval o X.env
   standAt apos.atName
   let (f, first) ← holding [ov] (getMethod ov m pl)
   callWith pos f first (backTo pos (starEach (e :: es) X.env)) (backToKw pos (keywordEach [] X.env))) := by rfl) (hn : ps.length = n := by rfl) : PEf X (.Call (.Attribute o m apos) (e :: es) [] pos) (Zdd cn m n F fo fa) := by
 subst hn
 obtain ⟨C, f, fd, hns, hC, hM, hF, hb⟩ := G.ex
 exact PEi (Zvv (pl := pl) (E := E0) ho hC hM hF hr hb .nil Ztl ha hst hpl ht) fun σ H Q z => Zre (f := f) hns z
theorem Zel {pl : Sem Bool} (G : FnM X.prog X.w X.K X.mg X.base k cn m ps F) (hr : Room k X.A) (ho : PEf X o fo)
  (ht : eval (.Call (.Attribute o m apos) [] [] pos) X.env = (do
   let ov ← eval o X.env
   standAt apos.atName
   let (f, first) ← holding [ov] (getMethod ov m pl)
   callWith pos f first (backTo pos (starEach [] X.env)) (backToKw pos (keywordEach [] X.env))) := by rfl) (hn : ps.length = n := by rfl) : PEf X (.Call (.Attribute o m apos) [] [] pos) (Zdd cn m n F fo Zae) := by
 subst hn
 obtain ⟨C, f, fd, hns, hC, hM, hF, hb⟩ := G.ex
 refine PEi (Ztc (pl := pl) (E := E0) ho hC hM hF hr hb .nil Ztl ht) fun σ H Q z => ?_
 obtain ⟨ι, σd, Hd, d, Hd', s, hr, e, q⟩ := Zre (f := f) hns z
 refine ⟨ι, σd, Hd, d, Hd', s, hr, e, fun v H' ι' l h r => ?_⟩
 obtain ⟨a, dx, fs, h1, h2, h3, ι2, σd2, Hd2, ds, Hd3, s2, hr2, e2, q2⟩ := q v H' ι' l h r
 cases e2
 exact ⟨a, dx, fs, h1, h2, h3, q2 [] H' ι2 Le.refl hr2 .nil⟩
theorem Zwq {C : Addr} {σ : L2.St} {H : Hp} {Q : VK} (hns : nsIn X.K mainGlobals cn = some (some (.ref C))) (z : rdE X.K (eMk cn ps.length F fa) σ H Q) : Zyk C (spF X.K ps.length F) [] E0 (rdA X.K fa) σ H Q := by
 obtain ⟨ι, σd, Hd, d, Hd', s, hr, e, q⟩ := z
 obtain ⟨⟨ds, H1⟩, e1, e0⟩ := Zo e
 clear e
 have e := e0
 clear e0
 refine ⟨ι, σd, Hd, ds, H1, s, hr, e1, fun vs H' ι' l h P x dx z1 z2 z3 => ?_⟩
 dsimp only at e
 split at e
 ·rename_i hl
  obtain ⟨⟨r, H2⟩, e2, e0⟩ := Zo e
  clear e
  have e := e0
  clear e0
  dsimp only at e
  split at e
  ·cases e
   have zx : upd H' dx (.own x) x = none := by rw [Zaj (Ne.symm z3)]; exact z1
   have L : Le X.K H' ι' (upd (upd H' dx (.own x)) x (.ins C dx [])) (ι' ++ [x]) := (Le.fresh z2 _).trans (Le.fresh1 zx _)
   have hh : HRep X.K (upd (upd H' dx (.own x)) x (.ins C dx [])) (ι' ++ [x]) (H1 ++ [.obj cn []]) := (h.tup z2 _).new zx ⟨C, dx, [], hns, Zaq, .nil⟩
   have rx : Rep X.K (upd (upd H' dx (.own x)) x (.ins C dx [])) (ι' ++ [x]) (.ref H1.length) (.ref x) := Zak.mpr ⟨x, rfl, by rw [← h.len]; simp⟩
   refine ⟨ι' ++ [x], .ref H1.length :: ds, H1 ++ [.obj cn []], .non, _, hl, hh, .cons rx (by rw [List.append_nil]; exact Prd.imp P fun p x _ z => z.mono L), e2, fun v H3 ι3 l3 h3 r3 => ⟨by simpa using r3, q _ H3 ι3 ((l.trans L).trans l3) h3 (rx.mono l3)⟩⟩
  ·cases e
 ·cases e
theorem Zsv (G : FnI X.prog X.w X.K X.mg X.base k cn ps F) (hr : Room (k + 1) X.A) (hg : Gl X cn) (ha : PAf X (e :: es) fa) (hdb : (cn == ("__debug__" : Str)) = false := by decide) (he : starEach (e :: es) X.env = (false, eval e X.env) :: starEach es X.env := by exact Zat rfl) (hpl : (backTo pos (starEach es X.env)).any (·.1) = false := by exact Zct rfl) (hn : ps.length = n := by rfl) :
  PEf X (.Call (.Name cn p) (e :: es) [] pos) (eMk cn n F fa) := by
 subst hn
 obtain ⟨C, f, fd, hm, hns, hM, hF, hb⟩ := G.ex
 exact PEi (Zxy (E := E0) hM hF hr hg hm hb .nil Ztl ha hdb he hpl) fun σ H Q z => Zwq hns z
end
structure Tm (K : Frag) (cn m qual : Str) (st : Stmt) : Prop where
 ex : ∃ C f fd, nsIn K mainGlobals cn = some (some (.ref C)) ∧ Cls K C ∧ Meth K C m f ∧ Fun K m qual st f fd
structure Ti (K : Frag) (mg : Str -> Option Value) (cn qual : Str) (st : Stmt) : Prop where
 ex : ∃ C f fd, mg cn = some (.ref C) ∧ nsIn K mainGlobals cn = some (some (.ref C)) ∧ Mk K C f ∧ Fun K "__init__" qual st f fd
section
variable {K : Frag} {hp : Heap} {mg : Str -> Option Value} {cn m qual : Str} {st : Stmt} {C f : Addr} {oc : Value} {od an : Option Addr} {osl : Array (Option Value)} {kV doc pm cdv ct : Value}
theorem tm_mk (a : nsIn K mainGlobals cn = some (some (.ref C))) (b : plainGet K C Str.empty = true) (c : hasDictIn K C = true) (d : plainOver K C = true) (e : findIn K (.ref C) "__setattr__" = some (some (.builtin "object.__setattr__"))) (g : findIn K (.ref C) m = some (some (.ref f))) (h : isFn K (.ref f) = true) (i : keepIn K (.ref f) = true)
  (j : K.lookup f = some ⟨oc, od, .func (fnOf m qual (Zda st) (Zbe st) (Zad st) .none kV doc pm an cdv ct), osl⟩) (l : codeIn K cdv qual = true) : Tm K cn m qual st :=
 ⟨C, f, _, a, ⟨b, c, d, e⟩, ⟨g, h, i⟩, Zp2 j l i⟩
theorem ti_mk (X : K.In hp) (G : hp.Ns mainGlobals mg) (a : nsIn K mainGlobals cn = some (some (.ref C))) (b : makesIn K C = true) (c : findIn K (.ref C) "__init__" = some (some (.ref f))) (d : isFn K (.ref f) = true) (e : keepIn K (.ref C) = true) (i : keepIn K (.ref f) = true)
  (j : K.lookup f = some ⟨oc, od, .func (fnOf "__init__" qual (Zda st) (Zbe st) (Zad st) .none kV doc pm an cdv ct), osl⟩) (l : codeIn K cdv qual = true) : Ti K mg cn qual st :=
 ⟨C, f, _, mg_of X G a, a, ⟨b, c, d, e⟩, Zp2 j l i⟩
theorem kl_mk (a : nsIn K mainGlobals cn = some (some (.ref C))) (b : plainGet K C Str.empty = true) (c : hasDictIn K C = true) (d : plainOver K C = true) (e : findIn K (.ref C) "__setattr__" = some (some (.builtin "object.__setattr__"))) : Kl K cn [] :=
 ⟨C, a, ⟨b, c, d, e⟩, nofun⟩
theorem Zqs {fl : List Str} {x : Str} (T : Kl K cn fl) (a : nsIn K mainGlobals cn = some (some (.ref C))) (g : findIn K (.ref C) x = some none) : Kl K cn (x :: fl) := by
 obtain ⟨h1, h2⟩ := T.at a
 refine ⟨C, a, h1, fun y hy => ?_⟩
 rcases List.mem_cons.mp hy with rfl | hy
 ·exact g
 ·exact h2 y hy
end
section
variable {P : Program} {w : World} {K : Frag} {mg : Str -> Option Value} {base : Heap} {cn m qual : Str} {st : Stmt} {N ps : List Str} {k : Nat} {b : SF}
theorem Zr8 (T : Tm K cn m qual st) (S : FnScope N ps (Zad st))
  (hbd : ∀ (kV doc pm : Value) (an : Option Addr) (cdv ct : Value) (us : List Value), us.length = ps.length -> bindArgs (fnOf m qual (Zda st) (Zbe st) (Zad st) .none kV doc pm an cdv ct) ⟨us, []⟩ = pure (ps.zip us))
  (hb : ∀ (f : Addr) (cdv : Value) (A : Around) (outer : List Env) (s : Shared) (H : Hp) (E : XK), Room k (A.deeper (envOfC qual (Zad st) s.heap.objs.size f cdv)) →
   Zng (Ze2 CX0 P w K mg base N qual (Zad st) f cdv A outer s H E).nox (Zbe st) b) : FnM P w K mg base (k + 1) cn m ps (Zbp ps.length N.length b) := by
 obtain ⟨C, f, fd, h1, h2, h3, F⟩ := T.ex
 exact ⟨C, f, fd, h1, h2, h3, fn_f F S fun cdv A outer s H E hr => hb f cdv A outer s H E hr, F.binds hbd⟩
theorem fi_mk (T : Ti K mg cn qual st) (S : FnScope N ps (Zad st))
  (hbd : ∀ (kV doc pm : Value) (an : Option Addr) (cdv ct : Value) (us : List Value), us.length = ps.length → bindArgs (fnOf "__init__" qual (Zda st) (Zbe st) (Zad st) .none kV doc pm an cdv ct) ⟨us, []⟩ = pure (ps.zip us))
  (hb : ∀ (f : Addr) (cdv : Value) (A : Around) (outer : List Env) (s : Shared) (H : Hp) (E : XK), Room k (A.deeper (envOfC qual (Zad st) s.heap.objs.size f cdv)) →
   Zng (Ze2 CX0 P w K mg base N qual (Zad st) f cdv A outer s H E).nox (Zbe st) b) : FnI P w K mg base (k + 1) cn ps (Zbp ps.length N.length b) := by
 obtain ⟨C, f, fd, h0, h1, h3, F⟩ := T.ex
 exact ⟨C, f, fd, h0, h1, h3, fn_f F S fun cdv A outer s H E hr => hb f cdv A outer s H E hr, F.binds hbd⟩
end
theorem Zs7 {P : Program} {w : World} {K : Frag} {mg : Str -> Option Value} {base : Heap} {k : Nat} {x y : Str} {ps : List Str} {F : FF} (G : Fn P w K mg base k x ps F) (h : mg y = mg x) : Fn P w K mg base k y ps F := by
 obtain ⟨f, fd, h1, h2, h3, h4, h5⟩ := G.ex
 exact ⟨f, fd, h1, h2, h3, by rw [h]; exact h4, h5⟩
theorem al_mk {K : Frag} {hp : Heap} {mg : Str -> Option Value} {x y : Str} {v : Value} (X : K.In hp) (G : hp.Ns mainGlobals mg) (a : nsIn K mainGlobals y = some (some v)) (b : nsIn K mainGlobals x = some (some v)) : mg y = mg x := by
 rw [mg_of X G a, mg_of X G b]
structure FnXM (P : Program) (w : World) (K : Frag) (mg : Str -> Option Value) (base : Heap) (k : Nat) (cn m : Str) (ps : List Str) (xn : Str) (F : XFF) : Prop where
 ex : ∃ C f fd, nsIn K mainGlobals cn = some (some (.ref C)) ∧ Cls K C ∧ Meth K C m f ∧ (∀ Cx, ExcT K mg xn Cx -> FnOk P w K mg base (CXe P w) k f fd ps (spX K Cx ps.length F)) ∧ Zfe K fd ps []
theorem Zns {P : Program} {w : World} {K : Frag} {mg : Str -> Option Value} {base : Heap} {cn m qual xn : Str} {st : Stmt} {N ps : List Str} {k : Nat} {b : XFs} (T : Tm K cn m qual st) (S : FnScope N ps (Zad st))
  (hbd : ∀ (kV doc pm : Value) (an : Option Addr) (cdv ct : Value) (us : List Value), us.length = ps.length -> bindArgs (fnOf m qual (Zda st) (Zbe st) (Zad st) .none kV doc pm an cdv ct) ⟨us, []⟩ = pure (ps.zip us))
  (hb : ∀ C, ExcT K mg xn C -> ∀ (f : Addr) (cdv : Value) (A : Around) (outer : List Env) (s : Shared) (H : Hp) (E : XK), Room k (A.deeper (envOfC qual (Zad st) s.heap.objs.size f cdv)) →
   PXf (Ze2 (CXe P w) P w K mg base N qual (Zad st) f cdv A outer s H E) C (Zbe st) b) : FnXM P w K mg base (k + 1) cn m ps xn (Zl6 ps.length N.length b) := by
 obtain ⟨C, f, fd, h1, h2, h3, F⟩ := T.ex
 exact ⟨C, f, fd, h1, h2, h3, fun Cx E => fx_f F S fun cdv A outer s H E1 hr => hb Cx E f cdv A outer s H E1 hr, F.binds hbd⟩
noncomputable abbrev XTs := SD -> HD -> Option (Str × HD)
noncomputable def Rz (X : Cx) (pins : List (Addr × Obj)) (σ : L2.St) (H : Hp) (ι : List Addr) (C : Addr) (Hd' : HD) (e : Value) (s' : Shared) : Prop :=
 ∃ s1 H1, Inv X pins σ H1 s1 ∧ CXe X.prog X.w X.stack H1 s1 (fun Cv _ H' => Cv = .ref C ∧ ∃ ι', Le X.K H ι H' ι' ∧ HRep X.K H' ι' Hd') e s'
noncomputable def Rzz (X : Cx) (pins : List (Addr × Obj)) (σ : L2.St) (H : Hp) (ι : List Addr) (cn : Str) (Hd' : HD) (L : List Str) (e : Value) (s' : Shared) : Prop := cn ∈ L ∧ ∃ C, ExcT X.K X.mg cn C ∧ Rz X pins σ H ι C Hd' e s'
noncomputable def PXe (X : Cx) (L : List Str) (e : Expr) (x : XTs) : Prop := ∀ (pins : List (Addr × Obj)) (s : Shared) (σ : L2.St) (H : Hp), Inv X pins σ H s -> ∀ ι σd Hd cn Hd', SRep X.K H ι σ σd -> HRep X.K H ι Hd -> x σd Hd = some (cn, Hd') →
 wpAny (model X.prog X.w) X.A (eval e X.env) (fun _ _ => False) (Rzz X pins σ H ι cn Hd' L) s
noncomputable def PXs (X : Cx) (L : List Str) (sts : List Stmt) (x : XTs) : Prop := ∀ (pins : List (Addr × Obj)) (s : Shared) (σ : L2.St) (H : Hp), Inv X pins σ H s -> ∀ ι σd Hd cn Hd', SRep X.K H ι σ σd -> HRep X.K H ι Hd -> x σd Hd = some (cn, Hd') →
 wpAny (model X.prog X.w) X.A (execs sts X.env) (fun _ _ => False) (Rzz X pins σ H ι cn Hd' L) s
theorem Rzz.le {X : Cx} {pins : List (Addr × Obj)} {σ : L2.St} {H H1 : Hp} {ι ι1 : List Addr} {cn : Str} {Hd' : HD} {L : List Str} {e : Value} {s' : Shared} (l : Le X.K H ι H1 ι1) (z : Rzz X pins σ H1 ι1 cn Hd' L e s') : Rzz X pins σ H ι cn Hd' L e s' := by
 obtain ⟨h1, C, h2, s1, H2, h3, ex, C', H3, h4, ⟨h5, ι', h6, h7⟩, h8⟩ := z
 exact ⟨h1, C, h2, s1, H2, h3, ex, C', H3, h4, ⟨h5, ι', l.trans h6, h7⟩, h8⟩
noncomputable def Zib (cn m : Str) (n : Nat) (xn : Str) (F : XFF) (fo : EF) (fa : AF) : XTs := fun σ H => (fo σ H).bind fun o => match o.1 with
 | .ref k => match o.2[k]? with
  | some (.obj c fs) => if c = cn ∧ fs.lookup m = none then (fa σ o.2).bind fun p => if p.1.length + 1 = n then (F (.ref k :: p.1) p.2).map fun H' => (xn, H') else none else none
  | _ => none
 | _ => none
noncomputable def Zya (t : TF) (a b : XTs) : XTs := fun σ H => (t σ H).bind fun r => if r.1 then a σ r.2 else b σ r.2
section
variable {X : Cx} {L : List Str} {o e c a b : Expr} {es : List Expr} {cn m xn : Str} {k n : Nat} {ps : List Str} {F : XFF} {fo : EF} {fa : AF} {xa xb x : XTs} {t : TF} {pos apos ep tp : Pos} {tn : Str} {as bs : List Stmt}
theorem Zn3 {σd : SD} {Hd Hd' : HD} {cx : Str} (e : Zib cn m n xn F fo fa σd Hd = some (cx, Hd')) : cx = xn ∧ ∃ k H1 fs ds H2, fo σd Hd = some (.ref k, H1) ∧ H1[k]? = some (.obj cn fs) ∧ fs.lookup m = none ∧ fa σd H1 = some (ds, H2) ∧ ds.length + 1 = n ∧ F (.ref k :: ds) H2 = some Hd' := by
 obtain ⟨⟨x, H1⟩, e1, e0⟩ := Zo e
 clear e
 have e := e0
 clear e0
 dsimp only at e
 split at e
 ·rename_i k0
  split at e
  ·rename_i c0 fs en
   split at e
   ·rename_i hc
    obtain ⟨rfl, hlk⟩ := hc
    obtain ⟨⟨ds, H2⟩, e2, e0⟩ := Zo e
    clear e
    have e := e0
    clear e0
    dsimp only at e
    split at e
    ·rename_i hl
     obtain ⟨H3, e3, e4⟩ := Zm e
     cases e4
     exact ⟨rfl, k0, H1, fs, ds, H2, e1, en, hlk, e2, hl, e3⟩
    ·cases e
   ·cases e
  ·cases e
 ·cases e
theorem Zmw {f : Addr} {fd : FuncData} {C : Addr} {pins : List (Addr × Obj)} {s : Shared} {σ : L2.St} {H H1 : Hp} {ι ι1 : List Addr} {us : List Value} {vs : List V} {ds : List D} {H2 Hd' : HD} (G : FnOk X.prog X.w X.K X.mg X.base (CXe X.prog X.w) k f fd ps (spX X.K C ps.length F)) (T : ExcT X.K X.mg xn C) (hL : xn ∈ L) (hr : Room k X.A) (hb : Zfe X.K fd ps [])
  (I : Inv X pins σ H1 s) (r : Za8 vs us) (l : Le X.K H ι H1 ι1) (h : HRep X.K H1 ι1 H2) (P : Paired (Rep X.K H1 ι1) ds vs) (hl : ds.length = ps.length) (e : F ds H2 = some Hd') :
  wpAny (model X.prog X.w) X.A (call (.ref f) us) (fun _ _ => False) (Rzz X pins σ H ι xn Hd' L) s := by
 have sp : spX X.K C ps.length F vs H1 (fun _ _ => False) fun Cv _ H' => Cv = .ref C ∧ ∃ ι', Le X.K H ι H' ι' ∧ HRep X.K H' ι' Hd' := ⟨ι1, ds, H2, Hd', hl, h, P, e, fun H' ι' l2 h2 => ⟨rfl, ι', l.trans l2, h2⟩⟩
 have hl2 : us.length = ps.length := by rw [← r.length]; exact G.len _ _ _ _ sp
 have hb1 := hb s us I.kIn (by rw [List.append_nil]; exact hl2)
 rw [List.append_nil] at hb1
 refine wpAny_call (codeAny_mono (G.run X.A X.stack s H1 ⟨us, []⟩ us vs _ _ hr I.env0 hb1 r sp) fun r s' hq => ?_)
 cases r with
 | ok fl =>
  cases fl with
  | ret u => obtain ⟨v, H', _, _, _, _, _, z⟩ := hq; exact z.elim
  | next => exact False.elim hq
  | brk => exact False.elim hq
  | cont => exact False.elim hq
 | error e => exact ⟨hL, C, T, s, H1, I, hq⟩
theorem Zrp {pl : Sem Bool} (G : FnXM X.prog X.w X.K X.mg X.base k cn m ps xn F) (T : ∃ C, ExcT X.K X.mg xn C) (hL : xn ∈ L) (hr : Room k X.A) (ho : PEf X.nox o fo)
  (ht : eval (.Call (.Attribute o m apos) [] [] pos) X.env = (do
   let ov ← eval o X.env
   standAt apos.atName
   let (f, first) ← holding [ov] (getMethod ov m pl)
   callWith pos f first (backTo pos (starEach [] X.env)) (backToKw pos (keywordEach [] X.env))) := by rfl) (hn : ps.length = n := by rfl) : PXe X L (.Call (.Attribute o m apos) [] [] pos) (Zib cn m n xn F fo Zae) := by
 subst hn
 intro pins s σ H I ι σd Hd cx Hd' ss hh e
 obtain ⟨rfl, k0, H1, fs, ds, H2, e1, en, hlk, e2, hl, e3⟩ := Zn3 e
 cases e2
 obtain ⟨C, f, fd, hns, hC, hM, hF, hb⟩ := G.ex
 obtain ⟨Cx, T⟩ := T
 refine methodCall_KW (pl := pl) (wpAny_mono (ho pins s σ H (fun v H' => ∃ ι', Rep X.K H' ι' (.ref k0) v ∧ Le X.K H ι H' ι' ∧ HRep X.K H' ι' H1) (I.wish _) ⟨ι, σd, Hd, _, H1, ss, hh, e1, fun v H' ι' l h r => ⟨ι', r, l, h⟩⟩) (fun u s1 z => ?_) fun _ _ z => z.elim) ht
 obtain ⟨v, H1v, I1, rv, ι1, rr, l1, h1⟩ := z
 have I1 : Inv X pins σ H1v s1 := I1.unwish
 obtain ⟨a, rfl, ha⟩ := Zak.mp rr
 obtain ⟨a', ha', C', dx, xs, hns', hH, hp⟩ := h1.at en
 rw [ha] at ha'
 cases ha'
 rw [hns] at hns'
 cases hns'
 obtain rfl : u = Value.ref a := rv
 refine Zep I1 hH hC hM ((Zfm hp).1 hlk) ?_
 exact callWith_K0 (first := [.ref a]) I1.kIn hM.kp (Zmw (us := [.ref a]) (vs := [.ref a]) (hF Cx T) T hL hr hb I1 (.cons rfl .nil) l1 h1 (.cons rr .nil) hl e3)
theorem Zj6 {pl : Sem Bool} (G : FnXM X.prog X.w X.K X.mg X.base k cn m ps xn F) (T : ∃ C, ExcT X.K X.mg xn C) (hL : xn ∈ L) (hr : Room k X.A) (ho : PEf X.nox o fo) (ha : PAf X.nox (e :: es) fa)
  (hst : starEach (e :: es) X.env = (false, eval e X.env) :: starEach es X.env := by exact Zat rfl) (hpl : (backTo pos (starEach es X.env)).any (·.1) = false := by exact Zct rfl)
  (ht : eval (.Call (.Attribute o m apos) (e :: es) [] pos) X.env = (do
   let ov ← eval o X.env
   standAt apos.atName
   let (f, first) ← holding [ov] (getMethod ov m pl)
   callWith pos f first (backTo pos (starEach (e :: es) X.env)) (backToKw pos (keywordEach [] X.env))) := by rfl) (hn : ps.length = n := by rfl) : PXe X L (.Call (.Attribute o m apos) (e :: es) [] pos) (Zib cn m n xn F fo fa) := by
 subst hn
 intro pins s σ H I ι σd Hd cx Hd' ss hh e
 obtain ⟨rfl, k0, H1, fs, ds, H2, e1, en, hlk, e2, hl, e3⟩ := Zn3 e
 obtain ⟨C, f, fd, hns, hC, hM, hF, hb⟩ := G.ex
 obtain ⟨Cx, T⟩ := T
 refine methodCall_KW (pl := pl) (wpAny_mono (ho pins s σ H (fun v H' => ∃ ι', Rep X.K H' ι' (.ref k0) v ∧ Le X.K H ι H' ι' ∧ HRep X.K H' ι' H1) (I.wish _) ⟨ι, σd, Hd, _, H1, ss, hh, e1, fun v H' ι' l h r => ⟨ι', r, l, h⟩⟩) (fun u s1 z => ?_) fun _ _ z => z.elim) ht
 obtain ⟨v, H1v, I1, rv, ι1, rr, l1, h1⟩ := z
 have I1 : Inv X pins σ H1v s1 := I1.unwish
 obtain ⟨a, rfl, ha1⟩ := Zak.mp rr
 obtain ⟨a', ha', C', dx, xs, hns', hH, hp⟩ := h1.at en
 rw [ha1] at ha'
 cases ha'
 rw [hns] at hns'
 cases hns'
 obtain rfl : u = Value.ref a := rv
 refine Zep I1 hH hC hM ((Zfm hp).1 hlk) ?_
 refine callWith_K (first := [.ref a]) (h₀ := X.base) I1.ok.mod.kin hM.kp (wpAny_mono (ha pos pins s1 σ H1v (fun vs H' => ∃ ι', Le X.K H ι H' ι' ∧ HRep X.K H' ι' H2 ∧ Paired (Rep X.K H' ι') ds vs ∧ Rep X.K H' ι' (.ref k0) (.ref a)) (I1.wish _) ⟨ι1, σd, H1, ds, H2, ss.mono l1, h1, e2, fun vs H' ι' l h P => ⟨ι', l1.trans l, h, P, rr.mono l⟩⟩) (fun us s2 z => ?_) fun _ _ z => z.elim) hst hpl
 obtain ⟨vs, H2v, I2, r2, ι2, l2, h2, P2, rr2⟩ := z
 have I2 : Inv X pins σ H2v s2 := I2.unwish
 exact ⟨I2.kIn, Zmw (us := .ref a :: us) (vs := .ref a :: vs) (hF Cx T) T hL hr hb I2 (.cons rfl r2) l2 h2 (.cons rr2 P2) hl e3⟩
theorem Zj0 (h : PXe X L e x) (hs : swapsWith e none ep.line X.env = pure false := by rfl) : PXs X L [.Expr e ep] x := by
 intro pins s σ H I ι σd Hd cx Hd' ss hh e1
 exact wpAny_execs_cons (wpAny_Expr_any (wpAny_mono (h pins s σ H I ι σd Hd cx Hd' ss hh e1) (fun _ _ z => z.elim) fun _ _ z => z) I.quiet hs)
theorem Zuy (hc : PTf X.nox c t) (ha : PXs X L as xa) (hb : PXs X L bs xb) : PXs X L [.If c as bs pos] (Zya t xa xb) := by
 intro pins s σ H I ι σd Hd cx Hd' ss hh e
 obtain ⟨⟨z, H1⟩, e1, e⟩ := Zo e
 refine wpAny_execs_cons (wpAny_If (wpAny_mono (hc pins s σ H (fun d H' => d = z ∧ ∃ ι', Le X.K H ι H' ι' ∧ HRep X.K H' ι' H1) (I.wish _) ⟨ι, σd, Hd, z, H1, ss, hh, e1, fun H' ι' l h => ⟨rfl, ι', l, h⟩⟩) (fun d s1 q => ?_) fun _ _ z => z.elim))
 obtain ⟨H2, I2, rfl, ι', l, h⟩ := q
 have I2 : Inv X pins σ H2 s1 := I2.unwish
 cases d with
 | true => exact wpAny_mono (ha pins s1 σ H2 I2 ι' σd H1 cx Hd' (ss.mono l) h (by simpa using e)) (fun _ _ z => z.elim) fun _ _ z => z.le l
 | false => exact wpAny_mono (hb pins s1 σ H2 I2 ι' σd H1 cx Hd' (ss.mono l) h (by simpa using e)) (fun _ _ z => z.elim) fun _ _ z => z.le l
end
noncomputable def Zw8 (a b : XTs) : XTs := fun σ H => match a σ H with
 | some r => some r
 | none => b σ H
theorem Zz5 {X : L2.Cx} {L : List PySem.Str} {e : PySem.Expr} {a b : XTs} (ha : PXe X L e a) (hb : PXe X L e b) : PXe X L e (Zw8 a b) := by
 intro pins s σ H I ι σd Hd cx Hd' ss hh e
 unfold Zw8 at e
 split at e
 ·rename_i r er
  cases e
  exact ha pins s σ H I ι σd Hd cx Hd' ss hh er
 ·exact hb pins s σ H I ι σd Hd cx Hd' ss hh e
noncomputable abbrev Xm (X : Cx) (ex : Addr) : Cx := { X with A := X.A.mark (some (.ref ex)), calm := false, xe := fun _ _ => False }
section
variable {X : Cx} {pins : List (Addr × Obj)} {σ : L2.St} {H : Hp} {s : Shared} {ex C : Addr} {o : Obj}
theorem Inv.told (I : Inv X pins σ H s) (n : H ex = none) (g : s.heap.get? ex = some o) (hc : o.cls = .ref C) (new : X.s₀.heap.get? ex = none) (ne : ex ≠ X.env.locals) (nc : ∀ x c, X.env.cells.lookup x = some c -> c ≠ ex) (np : ∀ p ∈ X.pn ++ pins, p.1 ≠ ex) : Inv X pins σ (upd H ex (.ext (Zgk ex C))) s := by
 have k : ∀ b ho, H b = some ho -> upd H ex (.ext (Zgk ex C)) b = some ho := fun b ho z => by rw [Zaj (Zal z n)]; exact z
 have fr : ∀ b, b ≠ ex -> H b = none -> upd H ex (.ext (Zgk ex C)) b = none := fun b h z => by rw [Zaj h]; exact z
 refine ⟨I.ok, I.os, I.bare, ⟨I.base.keep, I.base.slot, fun b o eb n hx => fr b (fun z => by rw [z, new] at eb; cases eb) (I.base.free b o eb n hx), I.base.there, fun b xs z => k b _ (I.base.tups b xs z), fun b o u z => k b _ (I.base.frzs b o u z), fun b ps z => let ⟨m, q⟩ := I.base.tbls b ps z; ⟨m, k b _ q⟩⟩, I.loc, I.cell, fr _ (Ne.symm ne) I.free, fun x c z => fr c (nc x c z) (I.freeC x c z), fun p hp => ?_, fun b ho z => ?_, I.len⟩
 ·obtain ⟨a1, a2, a3⟩ := I.pin p hp
  exact ⟨a1, fr _ (np p hp) a2, a3⟩
 ·by_cases hb : b = ex
  ·subst hb
   rw [Zaq] at z
   cases z
   exact ⟨⟨o, g, hc⟩, ⟨o, g⟩, fun h1 h2 z1 z2 => let ⟨o1, g1, c1⟩ := z1; ⟨o1, z2 o1 g1, c1⟩⟩
  ·rw [Zaj hb] at z
   exact (I.hok b ho z).stay (fun c v _ r => r) (fun c r => k c _ r) fun c xs r => k c _ r
theorem Inv.inM (I : Inv X pins σ H s) : Inv (Xm X ex) pins σ H s := by
 obtain ⟨o1, o2, o3, o4, o5, o6, o7, o8, o9, o10, o11, o12, o13, o14, o15, o16, o17, o18⟩ := I.ok
 exact ⟨⟨o1, o2, o3, o4, o5, o6, o7, o8, (fun z => by cases z), o10, o11, o12, o13, o14, o15, o16, o17, o18⟩, I.os, I.bare, I.base, I.loc, I.cell, I.free, I.freeC, I.pin, I.hok, I.len⟩
theorem Inv.outM (ok : X.Ok) (I : Inv (Xm X ex) pins σ H s) : Inv X pins σ H s :=
 ⟨ok, I.os, I.bare, I.base, I.loc, I.cell, I.free, I.freeC, I.pin, I.hok, I.len⟩
end
noncomputable def Zrk (iE : Nat) (b : SF) (x : XTs) (su : SF) : SF := fun σ H => match b σ H with
 | some r => some r
 | none => (x σ H).bind fun p => if iE < σ.length then (su (σ.set iE (some (.ref p.2.length))) (p.2 ++ [.exc p.1])).bind fun r => match r.1 with
  | .nx => some (.nx, r.2.1.set iE none, r.2.2)
  | _ => none
 else none
theorem Zqv {K : Frag} {H : Hp} {ι : List Addr} {σ : L2.St} {σd : SD} {iE : Nat} (s : SRep K H ι σ σd) (v : Option V) : SRep K H ι (σ.set iE v) (σd.set iE none) := by
 refine ⟨by simp [s.len], fun j d hd => ?_⟩
 by_cases hj : j = iE
 ·subst hj
  rw [List.getElem?_set] at hd
  split at hd
  ·split at hd <;> cases hd
  ·rename_i z; exact absurd rfl z
 ·rw [List.getElem?_set_ne (Ne.symm hj)] at hd ⊢
  exact s.var j d hd
noncomputable def Cat (K : Frag) (mg : Str -> Option Value) (xc : Str) (L : List Str) : Prop := ∃ cV, mg xc = some cV ∧ ∀ cn ∈ L, ∃ C, ExcT K mg cn C ∧ nsIn K mainGlobals cn = some (some (.ref C)) ∧ exmOne K (.ref C) cV = some true
section
variable {X : Cx} {L : List Str} {iE : Nat} {xc nm : Str} {b₀ : Stmt} {suite body : List Stmt} {b su : SF} {x : XTs} {np hp pos : Pos}
theorem Zxe {pins : List (Addr × Obj)} {σ : L2.St} {H : Hp} {ι : List Addr} {C : Addr} {cV : Value} {cn : Str} {Hd' H3 : HD} {σd σ2d : SD} {e : Value} {s' : Shared} {D : Ends} (hstk : X.stack = X.env :: X.outer) (hfr : X.env.frame = some X.env.locals) (hex0 : X.ex = []) (z : Rz X pins σ H ι C Hd' e s') (hns : nsIn X.K mainGlobals cn = some (some (.ref C)))
  (hgc : Gl X xc) (hmc : X.mg xc = some cV) (hex : exmOne X.K (.ref C) cV = some true) (hN : X.N.Nodup) (hi : X.N[iE]? = some nm) (hloc : X.env.scope.names.lookup nm = some .local) (hS : ∀ ex, Zng (Xm X ex) (b₀ :: suite) su) (ss : SRep X.K H ι σ σd)
  (e4 : su (σd.set iE (some (.ref Hd'.length))) (Hd' ++ [.exc cn]) = some (.nx, σ2d, H3)) (q : QS X.K H ι .nx (σ2d.set iE none) H3 D) (hdc : (xc == ("__debug__" : Str)) = false) :
  wpAny (model X.prog X.w) X.A (noteFrame e X.env) (fun _ s2 => wpAny (model X.prog X.w) X.A (setFlight e none) (fun _ s3 => wpAny (model X.prog X.w) X.A (handleBy e X.env [.ExceptHandler (some (.Name xc np)) (some nm) (b₀ :: suite) hp]) (SP X pins D) X.xe s3) X.xe s2) X.xe s' := by
 obtain ⟨s1, H1v, I1, hq⟩ := z
 obtain ⟨ex, Cv, H2v, rfl, ⟨rfl, ι2, l2, h2⟩, os, bare, un, hok, fl⟩ := hq
 obtain ⟨B, a0, fly, bo, bt⟩ := fl.fly
 rw [hstk] at fly
 have new : s1.heap.get? ex = none := fl.new
 have frA : X.A.frames = some (X.env :: X.outer) := by rw [← hstk]; exact I1.ok.frames
 refine wpAny_looks_onW frA hfr fly fun h4 held4 up4 => ?_
 refine wpAny_landsW held4 fun h5 fly5 up5 => ?_
 have ff : s'.heap.FunFrames B X.stack := by rw [hstk]; exact fly.2.2.1
 obtain ⟨un5, ok5⟩ := Zqp un hok bo bt fly5.1 (up4.trans up5) ff
 have I5 : Inv X pins σ H2v { s' with heap := h5 } := I1.call' (s' := { s' with heap := h5 }) (ch := []) os un5 ok5 bare (fun b z => absurd z (by simp))
 have exH : H2v ex = none := by
  cases z : H2v ex with
  | none => rfl
  | some ho =>
   obtain ⟨o, _, g⟩ := bt ex ho z
   rw [fly.2.1] at g; cases g
 have ne : ex ≠ X.env.locals := fun z => by
  obtain ⟨m, ⟨o, _, _, g, _⟩, _⟩ := I1.loc
  rw [← z, new] at g; cases g
 have nf : ex ∉ X.fs := fun z => by
  obtain ⟨_, o, g, _⟩ := I1.funs.mem z
  rw [new] at g; cases g
 have nc : ∀ x c, X.env.cells.lookup x = some c -> c ≠ ex := fun x c z y => by
  obtain ⟨v, o, g, _⟩ := I1.cell x c z
  rw [y, new] at g; cases g
 have npn : ∀ p ∈ X.pn ++ pins, p.1 ≠ ex := fun p hp y => by
  have g := (I1.pin p hp).1
  rw [y, new] at g; cases g
 have new0 : X.s₀.heap.get? ex = none := by
  cases z : X.s₀.heap.get? ex with
  | none => rfl
  | some o =>
   obtain ⟨o1, g⟩ := I1.base.there ex o z (by rw [hex0]; intro y; cases y)
   rw [new] at g; cases g
 obtain ⟨ob, wb, gob, cob, dob, _⟩ := fly5.first
 have I5m : Inv (Xm X ex) pins σ H2v { s' with heap := h5 } := Inv.inM I5
 refine wpAny_handleBy_cons (codeAny_handlers_test (Zh8 (X := Xm X ex) I5m hgc hmc ?_ hdc)) (by intro z; cases z)
 have LT : Looks (model X.prog X.w) h5 (typeOf (.ref ex)) (.ref C) := by rw [← cob]; exact (Looks.ld gob).andThen .now
 refine (exm_one (M := model X.prog X.w) I5.kIn LT hex).here ?_
 refine codeAny_handlers_suite_as ?_
 refine lands_againW fly5 fun h6 fly6 up6 => ?_
 obtain ⟨un6, ok6⟩ := Zqp un hok bo bt fly6.1 ((up4.trans up5).trans up6) ff
 have I6 : Inv X pins σ H2v { s' with heap := h6 } := I1.call' (s' := { s' with heap := h6 }) (ch := []) os un6 ok6 bare (fun b z => absurd z (by simp))
 obtain ⟨oe, ws, goe, coe, doe, _⟩ := fly6.first
 have I6t : Inv X pins σ (upd H2v ex (.ext (Zgk ex C))) { s' with heap := h6 } := Inv.told I6 exH goe coe new0 ne nc npn
 have I6m : Inv (Xm X ex) pins σ (upd H2v ex (.ext (Zgk ex C))) { s' with heap := h6 } := Inv.inM I6t
 have lx : Le X.K H2v ι2 (upd H2v ex (.ext (Zgk ex C))) (ι2 ++ [ex]) := Le.fresh1 exH _
 have hx : HRep X.K (upd H2v ex (.ext (Zgk ex C))) (ι2 ++ [ex]) (Hd' ++ [.exc cn]) := h2.new exH ⟨C, hns, Zaq⟩
 refine Zju (X := Xm X ex) I6m hN hi (.inl hloc) (v := .ref ex) rfl (fun s7 I7 => ?_) (.inr hloc)
 have sr : SRep X.K (upd H2v ex (.ext (Zgk ex C))) (ι2 ++ [ex]) (σ.set iE (some (.ref ex))) (σd.set iE (some (.ref Hd'.length))) := by
  have s2 := (ss.mono l2).mono lx
  refine ⟨by simp [s2.len], fun j d hd => ?_⟩
  by_cases hj : j = iE
  ·subst hj
   by_cases hl : j < σd.length
   ·rw [List.getElem?_set_self hl] at hd
    cases hd
    have e0 := s2.len
    exact ⟨.ref ex, List.getElem?_set_self (by omega), Zak.mpr ⟨ex, rfl, by rw [← h2.len]; simp⟩⟩
   ·rw [List.getElem?_eq_none (by simp; omega)] at hd; cases hd
  ·rw [List.getElem?_set_ne (Ne.symm hj)] at hd ⊢
   exact s2.var j d hd
 have st := hS ex pins s7 (σ.set iE (some (.ref ex))) (upd H2v ex (.ext (Zgk ex C))) { nx := fun σ8 H8 => D.nx (σ8.set iE none) H8, rt := fun _ _ => False } I7 ⟨ι2 ++ [ex], _, _, .nx, σ2d, H3, sr, hx, e4, fun σ8 H8 ι8 l8 h8 s8 => ?_⟩
 ·refine wpAny_mono st (fun f s8 z => ?_) fun _ _ z => z.elim
  cases f with
  | next =>
   obtain ⟨σ8, H8, I8, z⟩ := z
   exact Zw0 (Inv.outM I1.ok I8) hN hi hloc fun s9 I9 => ⟨_, _, I9, z⟩
  | ret u => obtain ⟨v, σ8, H8, I8, r, z⟩ := z; exact z.elim
  | brk => obtain ⟨σ8, H8, I8, z⟩ := z; exact z.elim
  | cont => obtain ⟨σ8, H8, I8, z⟩ := z; exact z.elim
 ·exact q (σ8.set iE none) H8 ι8 ((l2.trans lx).trans l8) h8 (Zqv s8 _)
theorem Ztt (hb0 : Zng X.nox body b) (hx : PXs X L body x) (R : Cat X.K X.mg xc L) (hN : X.N.Nodup) (hi : X.N[iE]? = some nm) (hloc : X.env.scope.names.lookup nm = some .local) (hS : ∀ ex, Zng (Xm X ex) (b₀ :: suite) su)
  (hstk : X.stack = X.env :: X.outer := by rfl) (hfr : X.env.frame = some X.env.locals := by rfl) (hex0 : X.ex = [] := by rfl) (hgc : Gl X xc := by rfl) (hdc : (xc == ("__debug__" : Str)) = false := by decide) :
  PSf X (.Try body [.ExceptHandler (some (.Name xc np)) (some nm) (b₀ :: suite) hp] [] [] pos) (Zrk iE b x su) := by
 intro pins s σ H D I z
 obtain ⟨ι, σd, Hd, fl, σd', Hd', ss, hr, e, qq⟩ := z
 unfold Zrk at e
 split at e
 ·rename_i r e1
  cases e
  refine wpAny_Try_except (wpAny_mono (hb0 pins s σ H D (I.wish _) ⟨ι, σd, Hd, _, _, _, ss, hr, e1, qq⟩) (fun f s1 z => ?_) fun _ _ z => z.elim)
  have z : SP X pins D f s1 := z.unwish
  cases f with
  | next => exact wpAny_execs_nil z
  | brk => exact z
  | cont => exact z
  | ret u => exact z
 ·obtain ⟨⟨cn, H2⟩, e1, e0⟩ := Zo e
  clear e
  dsimp only at e0
  split at e0
  ·obtain ⟨⟨fl2, σ2, H3⟩, e2, e3⟩ := Zo e0
   clear e0
   obtain ⟨cV, hmc, RR⟩ := R
   cases fl2 with
   | nx =>
    cases e3
    refine wpAny_Try_except (wpAny_mono (hx pins s σ H I ι σd Hd cn H2 ss hr e1) (fun _ _ z => z.elim) fun ev s' z => ?_)
    obtain ⟨hL, C, T, z⟩ := z
    obtain ⟨C', T', hns, hex⟩ := RR cn hL
    have ec : C' = C := by
     have y := T'.bound
     rw [T.bound] at y
     cases y; rfl
    subst ec
    exact Zxe hstk hfr hex0 z hns hgc hmc hex hN hi hloc hS ss e2 qq hdc
   | bk => cases e3
   | ct => cases e3
   | rt d => cases e3
  ·cases e0
end
noncomputable def Zl3 (t : List (Str × Bool)) (fo : EF) : EF := fun σ H => (fo σ H).bind fun o => match o.1 with
 | .ref n => match o.2[n]? with
  | some (.exc c) => (t.lookup c).map fun b => (.bl b, o.2)
  | _ => none
 | _ => none
noncomputable def Is1 (K : Frag) (cV : Value) (t : List (Str × Bool)) : Prop := ∀ c b, t.lookup c = some b -> ∃ C, nsIn K mainGlobals c = some (some (.ref C)) ∧ kitOne K (.ref C) cV = some b
noncomputable def IsN (K : Frag) (cs : List Addr) (t : List (Str × Bool)) : Prop := ∀ c b, t.lookup c = some b -> ∃ C, nsIn K mainGlobals c = some (some (.ref C)) ∧ kitAny K (.ref C) (cs.map .ref) = some b
noncomputable def Zl1 (K : Frag) (L : List Str) : Prop := ∀ cn ∈ L, ∃ C, nsIn K mainGlobals cn = some (some (.ref C)) ∧ ExcL K C
theorem Zpq {t : List (Str × Bool)} {c : Str} {b : Bool} (h : t.lookup c = some b) : c ∈ t.map (·.1) := by
 induction t with
 | nil => cases h
 | cons p r ih =>
  rw [List.lookup_cons] at h
  split at h
  ·rename_i z; simp only [List.map_cons, List.mem_cons]; exact .inl (by simpa using z)
  ·exact List.mem_cons_of_mem _ (ih h)
section
variable {X : Cx}
theorem Zpm {c : V} {cV : Value} (hu : ∀ u, Zcn c u → u = cV) : Zgx X (.builtin "isinstance") (fun xs H Q => ∃ a C b, xs = [.ref a, c] ∧ H a = some (.ext (Zgk a C)) ∧ ExcL X.K C ∧ kitOne X.K (.ref C) cV = some b ∧ Q (.bl b) H) := by
 rintro pins s σ H xs us Q I r ⟨a, C, b, rfl, hH, L, e, q⟩
 obtain ⟨u1, u2, rfl, r1, r2⟩ := Ztb r
 have e1 : u1 = .ref a := r1
 subst e1
 obtain rfl := hu u2 r2
 obtain ⟨⟨o, g, hc⟩, _, _⟩ := I.hok a _ hH
 exact kia_one (Znt (ox := o) (x := a) L) I.kIn ⟨g, hc⟩ e (by rintro z; cases z) fun tk => ⟨.bl b, H, I.tok tk, rfl, q⟩
theorem Zxr {cs : List Addr} : Zgx X (.builtin "isinstance") (fun xs H Q => ∃ a C b p, xs = [.ref a, .ref p] ∧ H a = some (.ext (Zgk a C)) ∧ ExcL X.K C ∧ kitAny X.K (.ref C) (cs.map .ref) = some b ∧ H p = some (.tup (cs.map .ref)) ∧ Q (.bl b) H) := by
 rintro pins s σ H xs us Q I r ⟨a, C, b, p, rfl, hH, L, e, hp, q⟩
 obtain ⟨u1, u2, rfl, r1, r2⟩ := Ztb r
 have e1 : u1 = .ref a := r1
 have e2 : u2 = .ref p := r2
 subst e1 e2
 obtain ⟨⟨o, g, hc⟩, _, _⟩ := I.hok a _ hH
 obtain ⟨_, its, rv, o2, g2, c1, ⟨n, d1⟩, _⟩ := I.hok p _ hp
 have ei := Zpr rv
 subst ei
 obtain ⟨oc, od, odd, os⟩ := o2
 have c1 : oc = .type "tuple" := c1
 have d1 : odd = .seq (cs.map Value.ref).toArray n := d1
 subst c1 d1
 exact kia_tup (Znt (ox := o) (x := a) L) I.kIn ⟨g, hc⟩ g2 e (by rintro z; cases z) fun tk => ⟨.bl b, H, I.tok tk, rfl, q⟩
theorem Zq7 {t : List (Str × Bool)} {fo : EF} {σ : L2.St} {H : Hp} {Q : VK} {R : V -> Hp -> Prop} (z : rdE X.K (Zl3 t fo) σ H Q) (k : ∀ a c b, t.lookup c = some b -> ∀ H' ι' C, nsIn X.K mainGlobals c = some (some (.ref C)) -> H' a = some (.ext (Zgk a C)) -> (∀ H'' , Le X.K H' ι' H'' ι' -> (∀ Hd, HRep X.K H' ι' Hd -> HRep X.K H'' ι' Hd) -> Q (.bl b) H'') -> R (.ref a) H') : rdE X.K fo σ H R := by
 obtain ⟨ι, σd, Hd, d, Hd', s, hr, e, q⟩ := z
 obtain ⟨⟨x, H1⟩, e1, e0⟩ := Zo e
 clear e
 refine ⟨ι, σd, Hd, x, H1, s, hr, e1, fun v H' ι' l h r => ?_⟩
 dsimp only at e0
 split at e0
 ·rename_i n
  split at e0
  ·rename_i c en
   obtain ⟨b, eb, e2⟩ := Zm e0
   cases e2
   obtain ⟨a, rfl, ha⟩ := Zak.mp r
   obtain ⟨a', ha', C, hns, hH⟩ := h.at en
   rw [ha] at ha'
   cases ha'
   exact k a c b eb H' ι' C hns hH fun H'' l2 h2 => q _ H'' ι' (l.trans l2) (h2 _ h) (by simp)
  ·cases e0
 ·cases e0
theorem Zmb {L : List Str} {t : List (Str × Bool)} {fo : EF} {o : Expr} {xn : Str} {c : Addr} {p1 p3 p4 : Pos} (E : Zl1 X.K L) (hl : t.map (·.1) = L) (ho : PEf X o fo) (hm : X.mg xn = some (.ref c)) (J : Is1 X.K (.ref c) t) (mI : X.mg "isinstance" = none) (gI : Gl X "isinstance" := by rfl) (gX : Gl X xn := by rfl) (hd : (xn == ("__debug__" : Str)) = false := by decide) (he : starEach [o, .Name xn p3] X.env = (false, eval o X.env) :: starEach [.Name xn p3] X.env := by exact Zat rfl) :
  PEf X (.Call (.Name "isinstance" p1) [o, .Name xn p3] [] p4) (Zl3 t fo) := by
 refine PEi (Zhc (Zpm (c := .ref c) (cV := .ref c) fun u r => r) gI mI boot_isinstance (Zek ho (Zek (Zmp (v := .ref c) gX hm rfl hd) Zlz rfl) he) (he := he)) fun σ H Q z => ?_
 refine Zq7 z fun a cn b eb H' ι' C hns hH q => ?_
 obtain ⟨C', h1, h3⟩ := J cn b eb
 rw [hns] at h1
 cases h1
 obtain ⟨C', h1, h2⟩ := E cn (hl ▸ Zpq eb)
 rw [hns] at h1
 cases h1
 exact ⟨a, C, b, rfl, hH, h2, h3, q H' Le.refl fun _ z => z⟩
theorem Zus {L : List Str} {t : List (Str × Bool)} {fo : EF} {o : Expr} {p1 p3 p4 : Pos} (E : Zl1 X.K L) (hl : t.map (·.1) = L) (ho : PEf X o fo) (J : Is1 X.K (.type "ValueError") t) (mI : X.mg "isinstance" = none) (mV : X.mg "ValueError" = none) (gI : Gl X "isinstance" := by rfl) (gX : Gl X "ValueError" := by rfl) (he : starEach [o, .Name "ValueError" p3] X.env = (false, eval o X.env) :: starEach [.Name "ValueError" p3] X.env := by exact Zat rfl) :
  PEf X (.Call (.Name "isinstance" p1) [o, .Name "ValueError" p3] [] p4) (Zl3 t fo) := by
 refine PEi (Zhc (Zpm (c := .ty "ValueError") (cV := .type "ValueError") fun u r => r) gI mI boot_isinstance (Zek ho (Zek (Zsd (v := .ty "ValueError") gX mV (by decide +kernel) rfl) Zlz rfl) he) (he := he)) fun σ H Q z => ?_
 refine Zq7 z fun a cn b eb H' ι' C hns hH q => ?_
 obtain ⟨C', h1, h3⟩ := J cn b eb
 rw [hns] at h1
 cases h1
 obtain ⟨C', h1, h2⟩ := E cn (hl ▸ Zpq eb)
 rw [hns] at h1
 cases h1
 exact ⟨a, C, b, rfl, hH, h2, h3, q H' Le.refl fun _ z => z⟩
theorem Ztf {L : List Str} {t : List (Str × Bool)} {fo : EF} {o : Expr} {es : List Expr} {cs : List Addr} {x1 : Nat} {p1 p3 p4 : Pos} (E : Zl1 X.K L) (hl : t.map (·.1) = L) (ho : PEf X o fo) (hcl : PA X es (Zud cs)) (J : IsN X.K cs t) (hz : cs.length ≤ 1000) (mI : X.mg "isinstance" = none) (gI : Gl X "isinstance" := by rfl) (he : starEach [o, .Tuple es x1 p3] X.env = (false, eval o X.env) :: starEach [.Tuple es x1 p3] X.env := by exact Zat rfl) :
  PEf X (.Call (.Name "isinstance" p1) [o, .Tuple es x1 p3] [] p4) (Zl3 t fo) := by
 refine PEi (Zhc (Zxr (cs := cs)) gI mI boot_isinstance (Zek ho (Zek (Zvj hcl) Zlz rfl) he) (he := he)) fun σ H Q z => ?_
 refine Zq7 z fun a cn b eb H' ι' C hns hH q => ?_
 obtain ⟨C', h1, h3⟩ := J cn b eb
 rw [hns] at h1
 cases h1
 obtain ⟨C', h1, h2⟩ := E cn (hl ▸ Zpq eb)
 rw [hns] at h1
 cases h1
 refine ⟨by rw [List.length_map, PySem.sizeLine_eq]; omega, fun p hp => ?_⟩
 exact ⟨a, C, b, p, rfl, by rw [Zaj (Zal hH hp)]; exact hH, h2, h3, Zaq, q _ (Le.fresh hp _) fun _ z => z.tup hp _⟩
end
section
variable {K : Frag} {hp : Heap} {mg : Str -> Option Value} {xc cn : Str} {cV : Value} {C : Addr} {L : List Str} {t : List (Str × Bool)} {b : Bool} {cs : List Addr}
theorem Zvy (X : K.In hp) (G : hp.Ns mainGlobals mg) (a : nsIn K mainGlobals xc = some (some cV)) : mg xc = some cV ∧ ∀ cn ∈ ([] : List Str), ∃ C, ExcT K mg cn C ∧ nsIn K mainGlobals cn = some (some (.ref C)) ∧ exmOne K (.ref C) cV = some true := ⟨mg_of X G a, nofun⟩
theorem Zjw (X : K.In hp) (G : hp.Ns mainGlobals mg) (a : nsIn K mainGlobals cn = some (some (.ref C))) (f : keepIn K (.ref C) = true) (p : excIn K C [.type "ValueError", .type "Exception", .type "BaseException", .type "object"] "ValueError.__new__" = true) (q : exmOne K (.ref C) cV = some true)
  (r : mg xc = some cV ∧ ∀ cn ∈ L, ∃ C, ExcT K mg cn C ∧ nsIn K mainGlobals cn = some (some (.ref C)) ∧ exmOne K (.ref C) cV = some true) : mg xc = some cV ∧ ∀ c ∈ cn :: L, ∃ C, ExcT K mg c C ∧ nsIn K mainGlobals c = some (some (.ref C)) ∧ exmOne K (.ref C) cV = some true := by
 refine ⟨r.1, fun c hc => ?_⟩
 rcases List.mem_cons.mp hc with rfl | hc
 ·exact ⟨C, ⟨mg_of X G a, f, _, _, _, _, p, PySem.F.excBase_ValueError⟩, a, q⟩
 ·exact r.2 c hc
theorem Cat.exc (h : Cat K mg xc L) (m : cn ∈ L) : ∃ C, ExcT K mg cn C := by
 obtain ⟨_, _, h⟩ := h
 obtain ⟨C, h, _⟩ := h cn m
 exact ⟨C, h⟩
theorem Yaa : Zl1 K [] := nofun
theorem Zmx {cd : ClassData} (a : nsIn K mainGlobals cn = some (some (.ref C))) (g : findIn K (.ref C) "__getattribute__" = some (some (.builtin "BaseException.__getattribute__"))) (h : findIn K (.ref C) "__getattr__" = some none) (i : findIn K (.ref C) "__class__" = some (some (.builtin "object.__class__"))) (j : specialIn K (.builtin "object.__class__") "__get__" = some (some (.builtin "getset_descriptor.__get__")))
  (l : takesIn K (.builtin "object.__class__") = some true) (m : mroIn K C (.type "object") = some true) (n : subIn K (.ref C) (.type "BaseException") = some true) (o : clsIn K C = some cd) (r : Zl1 K L) : Zl1 K (cn :: L) := by
 intro c hc
 rcases List.mem_cons.mp hc with rfl | hc
 ·exact ⟨C, a, ⟨g, h, i, j, l, m, n, by rw [o]; rfl⟩⟩
 ·exact r c hc
theorem Zjy : Is1 K cV [] := nofun
theorem Zcc (a : nsIn K mainGlobals cn = some (some (.ref C))) (s : kitOne K (.ref C) cV = some b) (r : Is1 K cV t) : Is1 K cV ((cn, b) :: t) := by
 intro c b' h
 rw [List.lookup_cons] at h
 split at h
 ·rename_i z
  cases h
  rw [show c = cn by simpa using z]
  exact ⟨C, a, s⟩
 ·exact r c b' h
theorem Zwt : IsN K cs [] := nofun
theorem Zj1 (a : nsIn K mainGlobals cn = some (some (.ref C))) (s : kitAny K (.ref C) (cs.map .ref) = some b) (r : IsN K cs t) : IsN K cs ((cn, b) :: t) := by
 intro c b' h
 rw [List.lookup_cons] at h
 split at h
 ·rename_i z
  cases h
  rw [show c = cn by simpa using z]
  exact ⟨C, a, s⟩
 ·exact r c b' h
end
noncomputable def jI (g : EF) (f : JF) : JF := fun σ H out => (g σ H).bind fun p => match p.1 with
 | .int n => if n.natAbs < 1000000 ∧ (out ++ (toString n : Str)).length ≤ sizeLine then f σ p.2 (out ++ (toString n : Str)) else none
 | _ => none
theorem pj_i {X : Cx} {a : Expr} {g : EF} {es : List Expr} {f : JF} {p : Pos} (ha : PEf X a g) (h : PJf X es f) : PJf X (.FormattedValue a (-1) none p :: es) (jI g f) := by
 rintro pins s σ H out Q I hl ⟨ι, σd, Hd, y, Hd', ss, hr, e, q⟩
 obtain ⟨⟨d1, H1⟩, e1, e0⟩ := Zo e
 clear e
 dsimp only at e0
 split at e0
 ·rename_i n
  split at e0
  ·rename_i hz
   refine joinParts_consE (joinParts_cons (FormattedValue_plain (thn (ha pins s σ H (fun v H' => ∃ ι', v = .int n ∧ Le X.K H ι H' ι' ∧ HRep X.K H' ι' H1) I ⟨ι, σd, Hd, _, H1, ss, hr, e1, fun v H' ι' l h r => ⟨ι', by simpa using r, l, h⟩⟩) fun u s1 z => ?_)))
   obtain ⟨v, H', I1, r1, ι', rfl, l, hh⟩ := z
   obtain ⟨t, rfl⟩ := r1
   refine formatField_int_small ?_ ?_
   ·have : n.natAbs.log2 ≤ 20 := by
     rcases Nat.eq_zero_or_pos n.natAbs with z | z
     ·rw [z]; decide
     ·have := (Nat.log2_lt (by omega)).mpr (show n.natAbs < 2 ^ 21 by omega)
      omega
    omega
   exact ⟨hz.2, h pins _ σ H' _ Q (I1.tok _) hz.2 ⟨ι', σd, H1, y, Hd', ss.mono l, hh, e0, fun H2 ι2 l2 h2 => q H2 ι2 (l.trans l2) h2⟩⟩
  ·cases e0
 ·cases e0
end DL
namespace DL
open PySem L2
theorem Zej {n : Nat} (h : n ≤ 1000000) : n ≤ sizeLine := by rw [PySem.sizeLine_eq]; omega
theorem Zhy {xs : List D} {i : Int} {d : D} (h0 : 0 ≤ i) (h : xs[i.toNat]? = some d) : atI xs i = some d := by
 have : i = (i.toNat : Int) := by omega
 rw [this]; exact Zaz h
end DL
namespace LH
open PySem L2 DL
noncomputable def Za5 (l : Int) : Int := if l < 0 then -l else l
noncomputable def Up (m : Int) : Int -> List Int -> Prop
 | _, [] => True
 | last, l :: r => last < Za5 l ∧ Za5 l ≤ m ∧ Up m (Za5 l) r
theorem Zcm {f g : SF} {σ σ1 : SD} {H H1 : HD} (h : f σ H = some (.nx, σ1, H1)) : Zaf f g σ H = g σ1 H1 := by
 unfold Zaf
 rw [h]
 rfl
theorem Zja {f g : SF} {σ σ1 : SD} {H H1 : HD} {d : D} (h : f σ H = some (.rt d, σ1, H1)) : Zaf f g σ H = some (.rt d, σ1, H1) := by
 unfold Zaf
 rw [h]
 rfl
theorem Zkv {i : Nat} {f : EF} {σ : SD} {H H1 : HD} {d : D} (h : f σ H = some (d, H1)) : Zbu i f σ H = some (.nx, σ.set i (some d), H1) := by
 unfold Zbu
 rw [h]
 rfl
noncomputable def Zdl (d : D) : Prop := d = .str "all" ∨ d = .str "some"
theorem Zgu {H : HD} : Zeg [] H := by intro x hx; simp at hx
theorem Zia (H : HD) (n : Nat) (i : Int) : toP H n (.int i) = some (.int i) := by cases n <;> rw [toP]
theorem Zn4 (H : HD) (n : Nat) (b : Bool) : toP H n (.bl b) = some (.bool b) := by cases n <;> rw [toP]
theorem Zxv (H : HD) (n : Nat) : toP H n .non = some .none := by cases n <;> rw [toP]
theorem Zp7 (H : HD) (i : Int) : dat (.int i) H = some (.int i) := by
 simp [dat, Zia, okP, PyData.canLay0, PyData.depth]
theorem Yac (H : HD) (b : Bool) : dat (.bl b) H = some (.bool b) := by
 simp [dat, Zn4, okP, PyData.canLay0, PyData.depth]
theorem Zsb (i j : Int) (H : HD) : eqD (.int i) (.int j) H = some (.bl (i == j), H) := by
 simp [eqD, Zof, Zp7, PyData.eqv]
theorem Yag (i j : Int) (H : HD) : neD (.int i) (.int j) H = some (.bl (!(i == j)), H) := by
 simp [neD, Zof, Zp7, PyData.eqv]
noncomputable def RowIn (m : Int) (d : D) : Prop := ∃ ls : List Int, d = .tup (ls.map .int) ∧ (∀ l ∈ ls, l ≠ 0 ∧ -10 ≤ l ∧ l ≤ 10) ∧ ls.length ≤ 9 ∧ Up m 0 ls
structure Sh (x : PyData) (w dp : Nat) : Prop where
 lay : x.canLay0 = true
 sh : x.showable = true
 dep : x.depth ≤ dp
 lv : x.leavesShort 40 = true
 wt : x.weight ≤ w
noncomputable def Zij (d : D) (w dp : Nat) : Prop := ∃ x, (∀ H n, toP H n d = some x) ∧ Sh x w dp
theorem Zij.bl {b : Bool} : Zij (.bl b) 40 0 := ⟨.bool b, fun H n => Zn4 H n b, rfl, rfl, Nat.le_refl _, rfl, Nat.zero_le _⟩
theorem Zij.non : Zij .non 40 0 := ⟨.none, fun H n => Zxv H n, rfl, rfl, Nat.le_refl _, rfl, Nat.zero_le _⟩
theorem Zkl (H : HD) (n : Nat) (x : Str) : toP H n (.str x) = some (.str x) := by cases n <;> rw [toP]
theorem Zij.str {x : Str} (h : PyData.strOk x = true) (h2 : (x.cps.toList.all fun c => decide (c < 16 ^ 8)) = true) (h3 : x.cps.size ≤ 40) : Zij (.str x) 40 0 :=
 ⟨.str x, fun H n => Zkl H n x, h, rfl, Nat.le_refl _, h2, h3⟩
theorem Zgb {x : Str} (h : (x.cps.toList.all fun c => decide (c < 0x110000)) = true) : PyData.strOk x = true := by
 unfold PyData.strOk
 rw [← Array.all_toList]
 exact h
theorem Zvd (xs : List D) (k : Nat) : Zl2 xs (some (k : Int)) none = xs.drop k := by
 unfold Zl2
 have h1 : HT.sIx xs.length 0 (some (k : Int)) = min k xs.length := by
  show (if (k : Int) < 0 then ((k : Int) + (xs.length : Int)).toNat else min (k : Int).toNat xs.length) = min k xs.length
  rw [if_neg (by omega), Int.toNat_natCast]
 have h2 : HT.sIx xs.length xs.length none = xs.length := rfl
 rw [h1, h2]
 by_cases h : k ≤ xs.length
 ·rw [Nat.min_eq_left h]
  exact List.take_of_length_le (by simp)
 ·rw [Nat.min_eq_right (by omega), List.drop_of_length_le (Nat.le_refl _), List.drop_of_length_le (by omega)]
  simp
theorem Zy4 (xs : List D) (k : Nat) : Zl2 xs none (some (k : Int)) = xs.take k := by
 unfold Zl2
 have h1 : HT.sIx xs.length 0 none = 0 := rfl
 have h2 : HT.sIx xs.length xs.length (some (k : Int)) = min k xs.length := by
  show (if (k : Int) < 0 then ((k : Int) + (xs.length : Int)).toNat else min (k : Int).toNat xs.length) = min k xs.length
  rw [if_neg (by omega), Int.toNat_natCast]
 rw [h1, h2]
 simp
theorem ac {f : EF} {g : AF} {σ : SD} {H H1 H2 : HD} {d : D} {ds : List D} (h1 : f σ H = some (d, H1)) (h2 : g σ H1 = some (ds, H2)) : Zaa f g σ H = some (d :: ds, H2) := by
 unfold Zaa; rw [h1]; simp only [Zb]; rw [h2]; rfl
theorem an {σ : SD} {H : HD} : Zae σ H = some ([], H) := rfl
theorem cb {g : FF} {f : AF} {σ : SD} {H H1 : HD} {ds : List D} {r : Option (D × HD)} (h1 : f σ H = some (ds, H1)) (h2 : g ds H1 = r) : eCB g f σ H = r := by
 unfold eCB; rw [h1]; exact h2
theorem tu {n : Nat} {xs : List D} {H : HD} (h : H[n]? = some (.lst xs)) : Zfv [.ref n] H = some (.tup xs, H) := by
 simp [Zfv, Zkw, h]
theorem tp {f : AF} {σ : SD} {H H1 : HD} {ds : List D} (h1 : f σ H = some (ds, H1)) (h2 : ds.length ≤ 1000000) : Zdg f σ H = some (.tup ds, H1) := by
 unfold Zdg; rw [h1]; exact if_pos (Zej h2)
theorem ls {f : AF} {σ : SD} {H H1 : HD} {ds : List D} (h1 : f σ H = some (ds, H1)) (h2 : ds.length ≤ 1000000) : Zdt f σ H = some (.ref H1.length, H1 ++ [.lst ds]) := by
 unfold Zdt; rw [h1]; exact if_pos (Zej h2)
theorem ca {n : Nat} {F : FF} {f : AF} {σ : SD} {H H1 : HD} {ds : List D} {r : Option (D × HD)} (h1 : f σ H = some (ds, H1)) (hl : ds.length = n) (h2 : F ds H1 = r) : Zai n F f σ H = r := by
 unfold Zai; rw [h1]; simp only [Zb]; rw [if_pos hl]; exact h2
theorem rt {f : EF} {σ : SD} {H H1 : HD} {d : D} (h : f σ H = some (d, H1)) : Zbh f σ H = some (.rt d, σ, H1) := by
 unfold Zbh; rw [h]; rfl
theorem op {g : F2} {fa fb : EF} {σ : SD} {H H1 H2 : HD} {d1 d2 : D} {r : Option (D × HD)} (h1 : fa σ H = some (d1, H1)) (h2 : fb σ H1 = some (d2, H2)) (h3 : g d1 d2 H2 = r) : eOp g fa fb σ H = r := by
 unfold eOp; rw [h1]; simp only [Zb]; rw [h2]; exact h3
theorem Zld {t : TF} {f g : SF} {σ : SD} {H H1 : HD} {b : Bool} (h : t σ H = some (b, H1)) : sIf t f g σ H = if b = true then f σ H1 else g σ H1 := by
 unfold sIf; rw [h]; rfl
theorem tof {f : EF} {σ : SD} {H H1 : HD} {b : Bool} (h : f σ H = some (.bl b, H1)) : tOf f σ H = some (b, H1) := by
 unfold tOf; rw [h]; rfl
theorem lenT (xs : List D) (H : HD) : Zdk [.tup xs] H = some (.int xs.length, H) := by simp [Zdk, Zkw]
theorem lenB (bs : List Bool) (H : HD) : Zdk [.tup (bs.map .bl)] H = some (.int bs.length, H) := by simp [Zdk, Zkw]
theorem ixT {xs : List D} {i : Int} {d : D} {H : HD} (h : atI xs i = some d) : ixD (.tup xs) (.int i) H = some (d, H) := by simp [ixD, Zkw, h]
theorem skip {t : TF} {f g : SF} {σ : SD} {H H1 : HD} (h : t σ H = some (false, H1)) : Zaf (sIf t f Zah) g σ H = g σ H1 := by
 refine Zcm ?_
 rw [Zld h]
 rfl
theorem hit {t : TF} {f f2 g : SF} {σ σ1 : SD} {H H1 H2 : HD} {d : D} (h : t σ H = some (true, H1)) (h2 : f σ H1 = some (.rt d, σ1, H2)) : Zaf (sIf t (Zaf f Zah) f2) g σ H = some (.rt d, σ1, H2) := by
 refine Zja ?_
 rw [Zld h]
 exact Zja h2
theorem vr {i : Nat} {σ : SD} {H : HD} {d : D} (h : σ[i]? = some (some d)) : Zac i σ H = some (d, H) := by simp [Zac, h]
theorem sl {fe : EF} {fl fh : OF} {σ : SD} {H H1 H2 H3 : HD} {d : D} {l h : Option Int} {r : Option (D × HD)} (h1 : fe σ H = some (d, H1)) (h2 : fl σ H1 = some (l, H2)) (h3 : fh σ H2 = some (h, H3)) (h4 : slD d l h H3 = r) : eSl fe fl fh σ H = r := by
 unfold eSl; rw [h1]; simp only [Zb]; rw [h2]; simp only [Zb]; rw [h3]; exact h4
theorem os {f : EF} {σ : SD} {H H1 : HD} {i : Int} (h : f σ H = some (.int i, H1)) : Zb4 f σ H = some (some i, H1) := by
 unfold Zb4; rw [h]; rfl
theorem on {σ : SD} {H : HD} : Zcg σ H = some (none, H) := rfl
theorem slhi {xs : List D} {k : Nat} {H : HD} : slD (.tup xs) none (some (k : Int)) H = some (.tup (xs.take k), H) := by
 rw [← Zy4]; rfl
theorem sllo {xs : List D} {k : Nat} {H : HD} : slD (.tup xs) (some (k : Int)) none H = some (.tup (xs.drop k), H) := by
 rw [← Zvd]; rfl
theorem adT {xs ys : List D} {H : HD} (h : xs.length + ys.length ≤ 1000000) : Zbn (.tup xs) (.tup ys) H = some (.tup (xs ++ ys), H) :=
 if_pos (Zej (by rw [List.length_append]; exact h))
theorem adI (i j : Int) (H : HD) : Zbn (.int i) (.int j) H = some (.int (i + j), H) := rfl
theorem suI (i j : Int) (H : HD) : Zmz (.int i) (.int j) H = some (.int (i - j), H) := by simp [Zmz, iiD, CT]
noncomputable def Zan (ls : List Int) : D := .tup (ls.map .int)
theorem orF {t u : TF} {σ : SD} {H H1 : HD} (h : t σ H = some (false, H1)) : Zqc t u σ H = u σ H1 := by unfold Zqc; rw [h]; rfl
theorem orT {t u : TF} {σ : SD} {H H1 : HD} (h : t σ H = some (true, H1)) : Zqc t u σ H = some (true, H1) := by unfold Zqc; rw [h]; rfl
theorem anF {t u : TF} {σ : SD} {H H1 : HD} (h : t σ H = some (false, H1)) : tAn t u σ H = some (false, H1) := by unfold tAn; rw [h]; rfl
theorem anT {t u : TF} {σ : SD} {H H1 : HD} (h : t σ H = some (true, H1)) : tAn t u σ H = u σ H1 := by unfold tAn; rw [h]; rfl
theorem Sh.can' {x : PyData} {w dp : Nat} (h : Sh x w dp) (hw : w ≤ 390000) (hd : dp ≤ 30) : Zj3 x = true := by
 have sz : sizeLine = 16777216 := PySem.sizeLine_eq
 have l := PyData.shown_le 40 (by omega) x h.lv
 have h1 : x.shown.length ≤ sizeLine := by
  have := h.wt
  rw [sz]; omega
 have h2 : x.depth ≤ 30 := Nat.le_trans h.dep hd
 simp [Zj3, h.lay, h.sh, h1, h2]
theorem Zjf (H : HD) (n : Nat) : ∀ bs : List Bool, Zgo H n (bs.map .bl) = some (bs.map .bool)
 | [] => by rw [List.map_nil, Zgo]; rfl
 | b :: bs => by rw [List.map_cons, Zgo, Zn4, Zjf H n bs]; rfl
theorem Zls : ∀ bs : List Bool, PyData.canLayAll0 (bs.map .bool) = true ∧ PyData.depthAll (bs.map .bool) = 0
 | [] => ⟨rfl, rfl⟩
 | b :: bs => by
  obtain ⟨h1, h2⟩ := Zls bs
  refine ⟨?_, ?_⟩
  ·simp [PyData.canLayAll0, PyData.canLay0, h1]
  ·simp [PyData.depthAll, PyData.depth, h2]
theorem Zu0 : ∀ bs : List Bool, (!(bs.map PyData.bool).any fun z => PyData.eqv z (.bool false)) = bs.all id
 | [] => rfl
 | b :: r => by
  have ih := Zu0 r
  rw [List.map_cons, List.any_cons, Bool.not_or, ih, List.all_cons]
  cases b <;> simp [PyData.eqv]
theorem Zt3 {H : HD} {p : Nat} {bs : List Bool} (h : H[p]? = some (.lst (bs.map .bl))) : niD (.bl false) (.ref p) H = some (.bl (bs.all id), H) := by
 have e1 : dat (.bl false) H = some (.bool false) := Yac H false
 have e2 : dat (.ref p) H = some (.list (bs.map .bool)) := by
  unfold dat
  rw [toP]
  simp only [h, Zjf, Option.map_some, Zb]
  rw [if_pos]
  obtain ⟨h1, h2⟩ := Zls bs
  simp [okP, PyData.canLay0, PyData.depth, h1, h2]
 unfold niD
 rw [e1]
 simp only [Zb]
 rw [e2]
 simp only [Zb, Ze3, Option.map_some]
 rw [Zu0 bs]
end LH
namespace WP
open PySem L2 DL LH
noncomputable def wE (r : Option (D × HD)) (Q : D -> HD -> Prop) : Prop := ∃ d H, r = some (d, H) ∧ Q d H
noncomputable def wT (r : Option (Bool × HD)) (Q : Bool -> HD -> Prop) : Prop := ∃ d H, r = some (d, H) ∧ Q d H
noncomputable def wA (r : Option (List D × HD)) (Q : List D -> HD -> Prop) : Prop := ∃ d H, r = some (d, H) ∧ Q d H
noncomputable def wO (r : Option (Option Int × HD)) (Q : Option Int -> HD -> Prop) : Prop := ∃ d H, r = some (d, H) ∧ Q d H
noncomputable def wI (r : Option ((List D × Zjt) × HD)) (Q : List D -> Zjt -> HD -> Prop) : Prop := ∃ d o H, r = some ((d, o), H) ∧ Q d o H
noncomputable def wG (r : Option (SD × HD)) (Q : SD -> HD -> Prop) : Prop := ∃ d H, r = some (d, H) ∧ Q d H
noncomputable def wH (r : Option HD) (Q : HD -> Prop) : Prop := ∃ H, r = some H ∧ Q H
noncomputable def wS (r : Option (FD × SD × HD)) (Q : FD -> SD -> HD -> Prop) : Prop := ∃ x d H, r = some (x, d, H) ∧ Q x d H
noncomputable def wN (n : Nat) (F : FF) (ds : List D) (H : HD) (Q : D -> HD -> Prop) : Prop := ds.length = n ∧ wE (F ds H) Q
noncomputable def br (b : Bool) (P Q : Prop) : Prop := (b = true -> P) ∧ (b = false -> Q)
noncomputable def Ztr (k : SD -> HD -> Prop) (Q : FD -> SD -> HD -> Prop) : FD -> SD -> HD -> Prop
 | .nx, σ, H => k σ H
 | r, σ, H => Q r σ H
noncomputable def fin (Q : D -> HD -> Prop) : FD -> SD -> HD -> Prop
 | .rt d, _, H => Q d H
 | .nx, _, H => Q .non H
 | _, _, _ => False
section
variable {σ : SD} {H : HD} {Q : D -> HD -> Prop}
theorem Zss {r : Option (D × HD)} {d : D} {H : HD} (e : r = some (d, H)) (q : Q d H) : wE r Q := ⟨d, H, e, q⟩
theorem w_var {i : Nat} {d : D} (h : (σ[i]?).join = some d) (q : Q d H) : wE (Zac i σ H) Q := ⟨d, H, by unfold Zac; rw [h]; rfl, q⟩
theorem w_c {d : D} (q : Q d H) : wE (eC d σ H) Q := ⟨d, H, rfl, q⟩
theorem w_op {g : F2} {fa fb : EF} (h : wE (fa σ H) fun x H1 => wE (fb σ H1) fun y H2 => wE (g x y H2) Q) : wE (eOp g fa fb σ H) Q := by
 obtain ⟨x, H1, e1, y, H2, e2, d, H3, e3, q⟩ := h
 exact ⟨d, H3, op e1 e2 e3, q⟩
theorem w_un {g : D -> HD -> Option (D × HD)} {fa : EF} (h : wE (fa σ H) fun x H1 => wE (g x H1) Q) : wE (eUn g fa σ H) Q := by
 obtain ⟨x, H1, e1, d, H3, e3, q⟩ := h
 exact ⟨d, H3, by unfold eUn; rw [e1]; exact e3, q⟩
theorem w_ch {g g' : F2} {fa fb fc : EF} (h : wE (fa σ H) fun x H1 => wE (fb σ H1) fun y H2 => wE (g x y H2) fun z H3 => ∃ k, z = .bl k ∧ br k (wE (fc σ H3) fun w H4 => wE (g' y w H4) Q) (Q (.bl false) H3)) : wE (eCh g g' fa fb fc σ H) Q := by
 obtain ⟨x, H1, e1, y, H2, e2, z, H3, e3, k, rfl, b1, b2⟩ := h
 unfold eCh
 rw [e1]; simp only [Zb]; rw [e2]; simp only [Zb]; rw [e3]; simp only [Zb, blD]
 cases k with
 | true =>
  obtain ⟨w, H4, e4, d, H5, e5, q⟩ := b1 rfl
  exact ⟨d, H5, by rw [if_pos rfl, e4]; exact e5, q⟩
 | false => exact ⟨.bl false, H3, by rw [if_neg (by simp)], b2 rfl⟩
theorem w_tof {f : EF} {Q : Bool -> HD -> Prop} (h : wE (f σ H) fun d H1 => ∃ b, d = .bl b ∧ Q b H1) : wT (tOf f σ H) Q := by
 obtain ⟨d, H1, e, b, rfl, q⟩ := h
 exact ⟨b, H1, tof e, q⟩
theorem w_bl {b : Bool} {P : Bool -> Prop} (h : P b) : ∃ c, D.bl b = .bl c ∧ P c := ⟨b, rfl, h⟩
theorem w_ttru {f : EF} {Q : Bool -> HD -> Prop} (h : wE (f σ H) fun d H1 => ∃ b, Zq5 d H1 = some b ∧ Q b H1) : wT (Zeq f σ H) Q := by
 obtain ⟨d, H1, e, b, e2, q⟩ := h
 exact ⟨b, H1, by unfold Zeq; rw [e]; simp only [Zb]; rw [e2]; rfl, q⟩
theorem w_no {t : TF} {Q : Bool -> HD -> Prop} (h : wT (t σ H) fun b H1 => Q (!b) H1) : wT (tNo t σ H) Q := by
 obtain ⟨b, H1, e, q⟩ := h
 exact ⟨!b, H1, by unfold tNo; rw [e]; rfl, q⟩
theorem w_an {t u : TF} {Q : Bool -> HD -> Prop} (h : wT (t σ H) fun b H1 => br b (wT (u σ H1) Q) (Q false H1)) : wT (tAn t u σ H) Q := by
 obtain ⟨b, H1, e, q1, q2⟩ := h
 cases b with
 | true => obtain ⟨c, H2, e2, q⟩ := q1 rfl; exact ⟨c, H2, (anT e).trans e2, q⟩
 | false => exact ⟨false, H1, anF e, q2 rfl⟩
theorem w_or {t u : TF} {Q : Bool -> HD -> Prop} (h : wT (t σ H) fun b H1 => br b (Q true H1) (wT (u σ H1) Q)) : wT (Zqc t u σ H) Q := by
 obtain ⟨b, H1, e, q1, q2⟩ := h
 cases b with
 | true => exact ⟨true, H1, orT e, q1 rfl⟩
 | false => obtain ⟨c, H2, e2, q⟩ := q2 rfl; exact ⟨c, H2, (orF e).trans e2, q⟩
theorem w_eno {f : EF} (h : wE (f σ H) fun d H1 => ∃ b, d = .bl b ∧ Q (.bl (!b)) H1) : wE (eNo f σ H) Q := by
 obtain ⟨d, H1, e, b, rfl, q⟩ := h
 exact ⟨.bl (!b), H1, by unfold eNo; rw [e]; rfl, q⟩
theorem w_ean {f g : EF} (h : wE (f σ H) fun d H1 => ∃ b, d = .bl b ∧ br b (wE (g σ H1) Q) (Q (.bl false) H1)) : wE (eAn f g σ H) Q := by
 obtain ⟨d, H1, e, b, rfl, q1, q2⟩ := h
 unfold eAn
 rw [e]; simp only [Zb, blD]
 cases b with
 | true => rw [if_pos rfl]; exact q1 rfl
 | false => rw [if_neg (by simp)]; exact ⟨_, _, rfl, q2 rfl⟩
theorem w_eif {t : TF} {f g : EF} (h : wT (t σ H) fun b H1 => br b (wE (f σ H1) Q) (wE (g σ H1) Q)) : wE (eIf t f g σ H) Q := by
 obtain ⟨b, H1, e, q1, q2⟩ := h
 unfold eIf
 rw [e]; simp only [Zb]
 cases b with
 | true => rw [if_pos rfl]; exact q1 rfl
 | false => rw [if_neg (by simp)]; exact q2 rfl
theorem w_anil {Q : List D -> HD -> Prop} (q : Q [] H) : wA (Zae σ H) Q := ⟨[], H, rfl, q⟩
theorem w_acons {f : EF} {g : AF} {Q : List D -> HD -> Prop} (h : wE (f σ H) fun d H1 => wA (g σ H1) fun ds H2 => Q (d :: ds) H2) : wA (Zaa f g σ H) Q := by
 obtain ⟨d, H1, e1, ds, H2, e2, q⟩ := h
 exact ⟨d :: ds, H2, ac e1 e2, q⟩
theorem w_cb {g : FF} {f : AF} (h : wA (f σ H) fun ds H1 => wE (g ds H1) Q) : wE (eCB g f σ H) Q := by
 obtain ⟨ds, H1, e1, d, H2, e2, q⟩ := h
 exact ⟨d, H2, cb e1 e2, q⟩
theorem w_call {n : Nat} {F : FF} {f : AF} (h : wA (f σ H) fun ds H1 => wN n F ds H1 Q) : wE (Zai n F f σ H) Q := by
 obtain ⟨ds, H1, e1, hl, d, H2, e2, q⟩ := h
 exact ⟨d, H2, ca e1 hl e2, q⟩
theorem w_n {n : Nat} {F : FF} {ds : List D} (hl : ds.length = n) (h : wE (F ds H) Q) : wN n F ds H Q := ⟨hl, h⟩
theorem w_tup {f : AF} (h : wA (f σ H) fun ds H1 => ds.length ≤ 1000000 ∧ Q (.tup ds) H1) : wE (Zdg f σ H) Q := by
 obtain ⟨ds, H1, e1, hl, q⟩ := h
 exact ⟨_, H1, tp e1 hl, q⟩
theorem w_lst {f : AF} (h : wA (f σ H) fun ds H1 => ds.length ≤ 1000000 ∧ Q (.ref H1.length) (H1 ++ [.lst ds])) : wE (Zdt f σ H) Q := by
 obtain ⟨ds, H1, e1, hl, q⟩ := h
 exact ⟨_, _, ls e1 hl, q⟩
theorem w_lm {g : D -> List D -> HD -> Option (D × HD)} {fo : EF} {f : AF} (h : wE (fo σ H) fun o H1 => Zkh o H1 = true ∧ wA (f σ H1) fun ds H2 => wE (g o ds H2) Q) : wE (eLM g fo f σ H) Q := by
 obtain ⟨o, H1, e1, i, ds, H2, e2, d, H3, e3, q⟩ := h
 exact ⟨d, H3, by unfold eLM; rw [e1]; simp only [Zb]; rw [if_pos i, e2]; exact e3, q⟩
theorem w_dn (q : Q (.ref H.length) (H ++ [.dic [] false])) : wE (eDN σ H) Q := ⟨_, _, rfl, q⟩
theorem w_on {Q : Option Int -> HD -> Prop} (q : Q none H) : wO (Zcg σ H) Q := ⟨none, H, rfl, q⟩
theorem w_os {f : EF} {Q : Option Int -> HD -> Prop} (h : wE (f σ H) fun d H1 => ∃ i, d = .int i ∧ Q (some i) H1) : wO (Zb4 f σ H) Q := by
 obtain ⟨d, H1, e, i, rfl, q⟩ := h
 exact ⟨some i, H1, os e, q⟩
theorem w_int {i : Int} {P : Int -> Prop} (h : P i) : ∃ c, D.int i = .int c ∧ P c := ⟨i, rfl, h⟩
theorem w_sl {fe : EF} {fl fh : OF} (h : wE (fe σ H) fun x H1 => wO (fl σ H1) fun l H2 => wO (fh σ H2) fun u H3 => wE (slD x l u H3) Q) : wE (eSl fe fl fh σ H) Q := by
 obtain ⟨x, H1, e1, l, H2, e2, u, H3, e3, d, H4, e4, q⟩ := h
 exact ⟨d, H4, sl e1 e2 e3 e4, q⟩
theorem w_rv {fe : EF} (h : wE (fe σ H) fun x H1 => ∃ xs, x = .tup xs ∧ xs.length ≤ 1000000 ∧ Q (.tup xs.reverse) H1) : wE (eRv fe σ H) Q := by
 obtain ⟨x, H1, e1, xs, rfl, hl, q⟩ := h
 exact ⟨_, H1, by unfold eRv; rw [e1]; exact if_pos (Zej (by rw [List.length_reverse]; exact hl)), q⟩
variable {R : FD -> SD -> HD -> Prop}
theorem w_snil (q : R .nx σ H) : wS (Zah σ H) R := ⟨_, _, _, rfl, q⟩
theorem w_seq {f g : SF} (h : wS (f σ H) (Ztr (fun σ1 H1 => wS (g σ1 H1) R) R)) : wS (Zaf f g σ H) R := by
 obtain ⟨x, σ1, H1, e, k⟩ := h
 unfold Zaf
 rw [e]; simp only [Zb]
 cases x with
 | nx => exact k
 | bk => exact ⟨_, _, _, rfl, k⟩
 | ct => exact ⟨_, _, _, rfl, k⟩
 | rt d => exact ⟨_, _, _, rfl, k⟩
theorem w_kn {k : SD -> HD -> Prop} (h : k σ H) : Ztr k R .nx σ H := h
theorem w_kr {k : SD -> HD -> Prop} {d : D} (h : R (.rt d) σ H) : Ztr k R (.rt d) σ H := h
theorem Zut {r : Option (FD × SD × HD)} {k : SD -> HD -> Prop} (J : SD -> HD -> Prop) (h : wS r fun x σ H => x = .nx ∧ J σ H) (q : ∀ σ H, J σ H -> k σ H) : wS r (Ztr k R) := by
 obtain ⟨x, s, H, e, rfl, j⟩ := h
 exact ⟨_, s, H, e, q s H j⟩
theorem w_fr {d : D} (h : Q d H) : fin Q (.rt d) σ H := h
theorem w_fn (h : Q .non H) : fin Q .nx σ H := h
theorem w_ret {f : EF} (h : wE (f σ H) fun d H1 => R (.rt d) σ H1) : wS (Zbh f σ H) R := by
 obtain ⟨d, H1, e, q⟩ := h; exact ⟨_, _, _, rt e, q⟩
theorem w_expr {f : EF} (h : wE (f σ H) fun d H1 => R .nx σ H1) : wS (Zcy f σ H) R := by
 obtain ⟨d, H1, e, q⟩ := h; exact ⟨_, _, _, by unfold Zcy; rw [e]; rfl, q⟩
theorem w_if {t : TF} {f g : SF} (h : wT (t σ H) fun b H1 => br b (wS (f σ H1) R) (wS (g σ H1) R)) : wS (sIf t f g σ H) R := by
 obtain ⟨b, H1, e, q1, q2⟩ := h
 rw [Zld e]
 cases b with
 | true => rw [if_pos rfl]; exact q1 rfl
 | false => rw [if_neg (by simp)]; exact q2 rfl
theorem w_set {i : Nat} {f : EF} (h : wE (f σ H) fun d H1 => R .nx (σ.set i (some d)) H1) : wS (Zbu i f σ H) R := by
 obtain ⟨d, H1, e, q⟩ := h; exact ⟨_, _, _, by unfold Zbu; rw [e]; rfl, q⟩
theorem w_asg {f : EF} {g : GF} (h : wE (f σ H) fun d H1 => wG (g d σ H1) fun σ2 H2 => R .nx σ2 H2) : wS (Zx3 f g σ H) R := by
 obtain ⟨d, H1, e, σ2, H2, e2, q⟩ := h; exact ⟨_, _, _, by unfold Zx3; rw [e]; simp only [Zb]; rw [e2]; rfl, q⟩
theorem w_gnm {i : Nat} {d : D} {Q : SD -> HD -> Prop} (h : Q (σ.set i (some d)) H) : wG (gNm i d σ H) Q := ⟨_, _, rfl, h⟩
theorem w_gsb {fo fi : EF} {g : Zvm} {d : D} {Q : SD -> HD -> Prop} (h : wE (fo σ H) fun o H1 => wE (fi σ H1) fun i H2 => wH (g o i d H2) fun H3 => Q σ H3) : wG (gSb fo fi g d σ H) Q := by
 obtain ⟨o, H1, e1, i, H2, e2, H3, e3, q⟩ := h
 exact ⟨σ, H3, by unfold gSb; rw [e1]; simp only [Zb]; rw [e2]; simp only [Zb]; rw [e3]; rfl, q⟩
theorem w_gnl {Q : SD -> HD -> Prop} (h : Q σ H) : wG (gNl [] σ H) Q := ⟨_, _, rfl, h⟩
theorem w_gcn {g : GF} {h : GFs} {d : D} {r : List D} {Q : SD -> HD -> Prop} (q : wG (g d σ H) fun σ1 H1 => wG (h r σ1 H1) Q) : wG (gCn g h (d :: r) σ H) Q := by
 obtain ⟨s, H1, e, s2, H2, e2, q⟩ := q
 exact ⟨s2, H2, by unfold gCn; simp only; rw [e]; exact e2, q⟩
theorem w_for {it : ItF} {g : GF} {b : SF} (h : wI (it σ H) fun xs own H1 => wS (Zgh own g b xs σ H1) R) : wS (Zev it g b σ H) R := by
 obtain ⟨xs, own, H1, e, q⟩ := h
 unfold Zev; rw [e]; exact q
theorem Zcf {n N : Nat} {b : SF} {ds : List D} (hl : ds.length = n) (h : wS (b (ds.map some ++ List.replicate (N - ds.length) none) H) (fin Q)) : wE (Zbp n N b ds H) Q := by
 obtain ⟨x, s, H1, e, q⟩ := h
 unfold Zbp
 rw [if_pos hl, e]
 simp only [Zb]
 cases x with
 | nx => exact ⟨_, _, rfl, q⟩
 | rt d => exact ⟨_, _, rfl, q⟩
 | bk => exact q.elim
 | ct => exact q.elim
theorem w_lc {it : ItF} {ci : List Nat} {tt : TF} {te : EF} (h : wI (it σ H) fun xs own H1 => wA (Zfj own (Zx4 ci σ) tt te xs H1) fun ds H2 => ds.length ≤ 1000000 ∧ Q (.ref H2.length) (H2 ++ [.lst ds])) : wE (eLC it ci tt te σ H) Q := by
 obtain ⟨xs, own, H1, e, ds, H2, e2, hl, q⟩ := h
 exact ⟨_, _, by unfold eLC; rw [e]; simp only [Zb]; rw [e2]; exact if_pos (Zej hl), q⟩
theorem w_bt {P S : Prop} (h : P) : br true P S := ⟨fun _ => h, nofun⟩
theorem w_bf {P S : Prop} (h : S) : br false P S := ⟨nofun, fun _ => h⟩
theorem w_bnt {P S : Prop} (h : P) : br (!false) P S := ⟨fun _ => h, nofun⟩
theorem w_bnf {P S : Prop} (h : S) : br (!true) P S := ⟨nofun, fun _ => h⟩
theorem w_bT {b : Bool} {P S : Prop} (e : b = true) (h : P) : br b P S := by subst e; exact w_bt h
theorem w_bF {b : Bool} {P S : Prop} (e : b = false) (h : S) : br b P S := by subst e; exact w_bf h
theorem w_sz {ds : List D} {P : Prop} (h : ds.length ≤ 1000000) (q : P) : ds.length ≤ 1000000 ∧ P := ⟨h, q⟩
theorem w_addI {i j : Int} (q : Q (.int (i + j)) H) : wE (Zbn (.int i) (.int j) H) Q := ⟨_, _, rfl, q⟩
theorem w_addT {a b : List D} (h : a.length + b.length ≤ 1000000) (q : Q (.tup (a ++ b)) H) : wE (Zbn (.tup a) (.tup b) H) Q := ⟨_, _, adT h, q⟩
theorem w_subI {i j : Int} (q : Q (.int (i - j)) H) : wE (Zmz (.int i) (.int j) H) Q := ⟨_, _, suI i j H, q⟩
theorem w_lt {i j : Int} (q : Q (.bl (decide (i < j))) H) : wE (ltD (.int i) (.int j) H) Q := ⟨_, _, by simp [ltD, iiD, CT], q⟩
theorem w_le {i j : Int} (q : Q (.bl (decide (i ≤ j))) H) : wE (leD (.int i) (.int j) H) Q := ⟨_, _, by simp [leD, iiD, CT], q⟩
theorem w_gt {i j : Int} (q : Q (.bl (decide (j < i))) H) : wE (gtD (.int i) (.int j) H) Q := ⟨_, _, by simp [gtD, iiD, CT], q⟩
theorem w_ge {i j : Int} (q : Q (.bl (decide (j ≤ i))) H) : wE (geD (.int i) (.int j) H) Q := ⟨_, _, by simp [geD, iiD, CT], q⟩
theorem w_mod {i j : Int} (h : 0 < j) (q : Q (.int (i % j)) H) : wE (Zdq (.int i) (.int j) H) Q := ⟨_, _, by have c : Zza i j := h; simp [Zdq, iiD, c], q⟩
theorem w_fdiv {i j : Int} (h : 0 < j) (h2 : j < 1073741824) (q : Q (.int (i / j)) H) : wE (Zoy (.int i) (.int j) H) Q := ⟨_, _, by have c : Yab i j := ⟨h, h2⟩; simp [Zoy, iiD, c], q⟩
theorem w_mulL {i j : Int} (h1 : -(2 ^ 64) < i) (h2 : i < 2 ^ 64) (q : Q (.int (i * j)) H) : wE (Znl (.int i) (.int j) H) Q := ⟨_, _, by have c : Zvg i j := .inl ⟨h1, h2⟩; simp [Znl, c], q⟩
theorem w_mulR {i j : Int} (h1 : -(2 ^ 64) < j) (h2 : j < 2 ^ 64) (q : Q (.int (i * j)) H) : wE (Znl (.int i) (.int j) H) Q := ⟨_, _, by have c : Zvg i j := .inr ⟨h1, h2⟩; simp [Znl, c], q⟩
theorem w_pow {i j : Int} (h1 : 0 ≤ j) (h2 : j ≤ 1000000) (h3 : i.natAbs < 2 ^ 64) (q : Q (.int (i ^ j.toNat)) H) : wE (Zsl (.int i) (.int j) H) Q := ⟨_, _, by have c : Yaf i j := ⟨h1, h2, h3⟩; simp [Zsl, iiD, c], q⟩
theorem w_neg {i : Int} (q : Q (.int (-i)) H) : wE (Zmq (.int i) H) Q := ⟨_, _, rfl, q⟩
theorem w_eqI {i j : Int} (q : Q (.bl (i == j)) H) : wE (eqD (.int i) (.int j) H) Q := ⟨_, _, Zsb _ _ _, q⟩
theorem w_eqS {a b : Str} (q : Q (.bl (a == b)) H) : wE (eqD (.str a) (.str b) H) Q := ⟨_, _, rfl, q⟩
theorem w_lenT {xs : List D} (q : Q (.int xs.length) H) : wE (Zdk [.tup xs] H) Q := ⟨_, _, lenT xs H, q⟩
theorem w_lenR {n : Nat} {xs : List D} (h : H[n]? = some (.lst xs)) (q : Q (.int xs.length) H) : wE (Zdk [.ref n] H) Q := ⟨_, _, by simp [Zdk, Zkw, h], q⟩
theorem w_lenF {xs : List D} (q : Q (.int xs.length) H) : wE (Zdk [.fl xs] H) Q := ⟨_, _, by simp [Zdk, Zkw], q⟩
theorem w_abs {i : Int} (q : Q (.int (Za5 i)) H) : wE (Zu3 [.int i] H) Q := ⟨_, _, rfl, q⟩
theorem w_ixT {xs : List D} {i : Int} {d : D} (h : atI xs i = some d) (q : Q d H) : wE (ixD (.tup xs) (.int i) H) Q := ⟨_, _, ixT h, q⟩
theorem w_ixR {n : Nat} {xs : List D} {i : Int} {d : D} (g : H[n]? = some (.lst xs)) (h : atI xs i = some d) (q : Q d H) : wE (ixD (.ref n) (.int i) H) Q := ⟨_, _, by simp [ixD, Zkw, g, h], q⟩
theorem w_ixF {xs : List D} {i : Int} {d : D} (h : atI xs i = some d) (q : Q d H) : wE (ixD (.fl xs) (.int i) H) Q := ⟨_, _, by simp [ixD, Zkw, h], q⟩
theorem w_intB {b : Bool} (q : Q (.int (if b then 1 else 0)) H) : wE (Yam [.bl b] H) Q := ⟨_, _, rfl, q⟩
theorem w_tupR {n : Nat} {xs : List D} (h : H[n]? = some (.lst xs)) (q : Q (.tup xs) H) : wE (Zfv [.ref n] H) Q := ⟨_, _, tu h, q⟩
theorem Zg3 {n : Nat} {xs : List D} {d : D} (h : H[n]? = some (.lst xs)) (hl : xs.length < 1000000) (q : Q .non (H.set n (.lst (xs ++ [d])))) : wE (Zce (.ref n) [d] H) Q :=
 ⟨_, _, by simp [Zce, h, Nat.lt_of_lt_of_le hl (Zej (Nat.le_refl _))], q⟩
theorem Zxw {d : D} {c t : String} (ha : Zpc c = true) (h : tyD d H = some t) (q : Q (.bl (t == c || (t == "bool" && c == "int"))) H) : wE (Zpb [d, .ty c] H) Q := ⟨_, _, by simp [Zpb, ha, h], q⟩
theorem w_isN {d : D} {b : Bool} (h : isB d .non = some b) (q : Q (.bl b) H) : wE (isD d .non H) Q := ⟨_, _, by simp [isD, h], q⟩
theorem w_isnN {d : D} {b : Bool} (h : isB d .non = some b) (q : Q (.bl (!b)) H) : wE (Zx8 d .non H) Q := ⟨_, _, by simp [Zx8, h], q⟩
theorem Zyb {n : Nat} {kvs : List (D × D)} {fz : Bool} {k : D} {ks : List Int} {v : D} (h : H[n]? = some (.dic kvs fz)) (hk : nk k = some ks) (hv : Za3 kvs ks = some v) (q : Q v H) : wE (Zf7 (.ref n) k H) Q := ⟨_, _, by simp [Zf7, Zs9, h, hk, hv], q⟩
theorem w_truB {b : Bool} {P : Bool -> Prop} (h : P b) : ∃ c, Zq5 (.bl b) H = some c ∧ P c := ⟨b, rfl, h⟩
theorem w_isi' {d : D} {c t : String} {r : Bool} (ha : Zpc c = true) (h : tyD d H = some t) (hr : (t == c || (t == "bool" && c == "int")) = r) (q : Q (.bl r) H) : wE (Zpb [d, .ty c] H) Q := Zxw ha h (by rw [hr]; exact q)
theorem w_eqS' {a b : Str} {r : Bool} (hr : (a == b) = r) (q : Q (.bl r) H) : wE (eqD (.str a) (.str b) H) Q := w_eqS (by rw [hr]; exact q)
theorem w_eqI' {a b : Int} {r : Bool} (hr : (a == b) = r) (q : Q (.bl r) H) : wE (eqD (.int a) (.int b) H) Q := w_eqI (by rw [hr]; exact q)
theorem w_slhi {xs : List D} {k : Nat} (q : Q (.tup (xs.take k)) H) : wE (slD (.tup xs) none (some (k : Int)) H) Q := ⟨_, _, slhi, q⟩
theorem w_sllo {xs : List D} {k : Nat} (q : Q (.tup (xs.drop k)) H) : wE (slD (.tup xs) (some (k : Int)) none H) Q := ⟨_, _, sllo, q⟩
theorem w_sllo1 {xs : List D} {k : Nat} (q : Q (.tup (xs.drop (k + 1))) H) : wE (slD (.tup xs) (some ((k : Int) + 1)) none H) Q := ⟨_, _, sllo (k := k + 1), q⟩
variable {I : List D -> Zjt -> HD -> Prop}
theorem w_isq {f : EF} (h : wE (f σ H) fun d H1 => ∃ xs own, Zie d H1 = some (xs, own) ∧ I xs own H1) : wI (iSq f σ H) I := by
 obtain ⟨d, H1, e, xs, own, e2, q⟩ := h
 exact ⟨xs, own, H1, by unfold iSq; rw [e]; simp only [Zb]; rw [e2]; rfl, q⟩
theorem w_itT {xs : List D} {P : List D -> Zjt -> Prop} (h : P xs []) : ∃ ys own, Zie (.tup xs) H = some (ys, own) ∧ P ys own := ⟨_, _, rfl, h⟩
theorem w_itR {n : Nat} {xs : List D} {P : List D -> Zjt -> Prop} (g : H[n]? = some (.lst xs)) (h : P xs [(n, .lst xs)]) : ∃ ys own, Zie (.ref n) H = some (ys, own) ∧ P ys own := ⟨_, _, by simp [Zie, g], h⟩
theorem w_ir1 {f : AF} (h : wA (f σ H) fun ds H1 => ∃ j, ds = [.int j] ∧ Zgs j ∧ I (Zau 0 j.toNat) [] H1) : wI (iR1 f σ H) I := by
 obtain ⟨ds, H1, e, j, rfl, s, q⟩ := h
 exact ⟨_, _, H1, by unfold iR1; rw [e]; exact if_pos s, q⟩
theorem w_idic {f : EF} (h : wE (f σ H) fun d H1 => ∃ n kvs fz, d = .ref n ∧ H1[n]? = some (.dic kvs fz) ∧ I (kvs.map (·.1)) [(n, .dic kvs true)] (H1.set n (.dic kvs true))) : wI (Zv2 f σ H) I := by
 obtain ⟨d, H1, e, n, kvs, fz, rfl, g, q⟩ := h
 exact ⟨_, _, _, by unfold Zv2; rw [e]; simp only [Zb, g], q⟩
theorem Zzv {own : Zjt} {g : GF} {b : SF} (h : Zeg own H) (q : R .nx σ H) : wS (Zgh own g b [] σ H) R := ⟨_, _, _, by rw [Zgh, if_pos h], q⟩
noncomputable def again (k : SD -> HD -> Prop) (R : FD -> SD -> HD -> Prop) : FD -> SD -> HD -> Prop
 | .nx, σ, H => k σ H
 | .ct, σ, H => k σ H
 | .bk, σ, H => R .nx σ H
 | .rt d, σ, H => R (.rt d) σ H
theorem Zvo {own : Zjt} {g : GF} {b : SF} {x : D} {r : List D} (h : Zeg own H) (q : wG (g x σ H) fun σ1 H1 => wS (b σ1 H1) (again (fun σ2 H2 => wS (Zgh own g b r σ2 H2) R) R)) : wS (Zgh own g b (x :: r) σ H) R := by
 obtain ⟨σ1, H1, e1, y, σ2, H2, e2, q⟩ := q
 rw [Zgh, if_pos h, e1]
 simp only [Zb]
 rw [e2]
 cases y with
 | nx => exact q
 | ct => exact q
 | bk => exact ⟨_, _, _, rfl, q⟩
 | rt d => exact ⟨_, _, _, rfl, q⟩
theorem w_agn {k : SD -> HD -> Prop} (h : k σ H) : again k R .nx σ H := h
theorem w_agr {k : SD -> HD -> Prop} {d : D} (h : R (.rt d) σ H) : again k R (.rt d) σ H := h
theorem Zdf {own : Zjt} {g : GF} {b : SF} (Inv : List D -> List D -> SD -> HD -> Prop) (ho : ∀ d t σ H, Inv d t σ H -> Zeg own H)
  (st : ∀ d x t σ H, Inv d (x :: t) σ H -> wG (g x σ H) fun σ1 H1 => wS (b σ1 H1) (again (fun σ2 H2 => Inv (d ++ [x]) t σ2 H2) R))
  (q : ∀ d σ H, Inv d [] σ H -> R .nx σ H) : ∀ (t d : List D) (σ : SD) (H : HD), Inv d t σ H -> wS (Zgh own g b t σ H) R
 | [], d, σ, H, i => Zzv (ho _ _ _ _ i) (q d σ H i)
 | x :: t, d, σ, H, i => by
  refine Zvo (ho _ _ _ _ i) ?_
  obtain ⟨σ1, H1, e1, y, σ2, H2, e2, k⟩ := st d x t σ H i
  refine ⟨σ1, H1, e1, y, σ2, H2, e2, ?_⟩
  cases y with
  | nx => exact Zdf Inv ho st q t _ σ2 H2 k
  | ct => exact Zdf Inv ho st q t _ σ2 H2 k
  | bk => exact k
  | rt d => exact k
theorem Zux {own : Zjt} {c0 : SD} {tt : TF} {te : EF} {Q : List D -> HD -> Prop} (h : Zeg own H) (q : Q [] H) : wA (Zfj own c0 tt te [] H) Q := ⟨_, _, by rw [Zfj, if_pos h], q⟩
theorem Zpv {own : Zjt} {c0 : SD} {tt : TF} {te : EF} {x : D} {r : List D} {Q : List D -> HD -> Prop} (h : Zeg own H)
  (q : wT (tt (some x :: c0) H) fun b H1 => br b (wE (te (some x :: c0) H1) fun e H2 => wA (Zfj own c0 tt te r H2) fun es H3 => Q (e :: es) H3) (wA (Zfj own c0 tt te r H1) Q)) : wA (Zfj own c0 tt te (x :: r) H) Q := by
 obtain ⟨b, H1, e1, q1, q2⟩ := q
 rw [Zfj, if_pos h, e1]
 simp only [Zb]
 cases b with
 | true =>
  obtain ⟨e, H2, e2, es, H3, e3, q⟩ := q1 rfl
  exact ⟨e :: es, H3, by rw [if_pos rfl, e2]; simp only [Zb]; rw [e3]; rfl, q⟩
 | false => rw [if_neg (by simp)]; exact q2 rfl
theorem w_yes {Q : Bool -> HD -> Prop} (q : Q true H) : wT (Zx2 σ H) Q := ⟨_, _, rfl, q⟩
theorem Zhp {own : Zjt} {c0 : SD} {tt : TF} (f : D -> Bool) (J : HD -> Prop) (ho : ∀ H, J H -> Zeg own H) {Q : List D -> HD -> Prop} : ∀ (xs : List D) (st : ∀ x ∈ xs, ∀ H, J H -> wT (tt (some x :: c0) H) fun b H1 => b = f x ∧ J H1) (H : HD), J H -> (∀ H', J H' -> Q (xs.filter f) H') -> wA (Zfj own c0 tt (Zac 0) xs H) Q
 | [], st, H, j, q => Zux (ho H j) (q H j)
 | x :: xs, st, H, j, q => by
  refine Zpv (ho H j) ?_
  obtain ⟨b, H1, e, rfl, j1⟩ := st x (by simp) H j
  refine ⟨_, H1, e, fun h => ?_, fun h => ?_⟩
  ·refine ⟨x, H1, rfl, ?_⟩
   refine Zhp f J ho xs (fun y hy => st y (by simp [hy])) H1 j1 fun H' j' => ?_
   have := q H' j'
   rwa [List.filter_cons_of_pos h] at this
  ·refine Zhp f J ho xs (fun y hy => st y (by simp [hy])) H1 j1 fun H' j' => ?_
   have := q H' j'
   rwa [List.filter_cons_of_neg (by rw [h]; simp)] at this
theorem Zne {own : Zjt} {c0 : SD} {te : EF} (g : D -> D) (J : HD -> Prop) (ho : ∀ H, J H -> Zeg own H) {Q : List D -> HD -> Prop} : ∀ (xs : List D) (st : ∀ x ∈ xs, ∀ H, J H -> wE (te (some x :: c0) H) fun d H1 => d = g x ∧ J H1) (H : HD), J H -> (∀ H', J H' -> Q (xs.map g) H') -> wA (Zfj own c0 Zx2 te xs H) Q
 | [], st, H, j, q => Zux (ho H j) (q H j)
 | x :: xs, st, H, j, q => by
  refine Zpv (ho H j) (w_yes (w_bt ?_))
  obtain ⟨b, H1, e, rfl, j1⟩ := st x (by simp) H j
  exact ⟨_, H1, e, Zne g J ho xs (fun y hy => st y (by simp [hy])) H1 j1 q⟩
end
structure Fm (S : List Nat) (H H' : HD) : Prop where
 old : ∀ (m : Nat) (o : DO), m ∉ S -> H[m]? = some o -> H'[m]? = some o ∨ ∃ kvs, o = .dic kvs false ∧ H'[m]? = some (.dic kvs true)
 len : H.length ≤ H'.length
theorem Fm.refl {S : List Nat} {H : HD} : Fm S H H := ⟨fun _ _ _ h => .inl h, Nat.le_refl _⟩
theorem Fm.trans {S : List Nat} {H H1 H2 : HD} (a : Fm S H H1) (b : Fm S H1 H2) : Fm S H H2 := by
 refine ⟨fun m o hm h => ?_, Nat.le_trans a.len b.len⟩
 rcases a.old m o hm h with h1 | ⟨kvs, rfl, h1⟩
 ·exact b.old m o hm h1
 ·rcases b.old m _ hm h1 with h2 | ⟨k2, e, _⟩
  ·exact .inr ⟨kvs, rfl, h2⟩
  ·cases e
theorem Fm.sub {S T : List Nat} {H H' : HD} (a : Fm S H H') (h : ∀ m ∈ S, m ∈ T) : Fm T H H' := ⟨fun m o hm q => a.old m o (fun z => hm (h m z)) q, a.len⟩
theorem Fm.app {S : List Nat} {H : HD} (L : HD) : Fm S H (H ++ L) := ⟨fun m o _ q => .inl (by
 have : m < H.length := (List.getElem?_eq_some_iff.mp q).1
 rw [List.getElem?_append_left this]; exact q), by simp⟩
theorem Fm.set {S : List Nat} {H : HD} {p : Nat} {o : DO} (h : p ∈ S) : Fm S H (H.set p o) := ⟨fun m u hm q => .inl (by rw [List.getElem?_set_ne (fun z => hm (by rw [← z]; exact h))]; exact q), by simp⟩
theorem Fm.new {S T : List Nat} {H H1 H' : HD} (a : Fm S H H1) (b : Fm T H1 H') (h : ∀ m ∈ T, m ∉ S -> H.length ≤ m) : Fm S H H' := by
 refine ⟨fun m o hm q => ?_, Nat.le_trans a.len b.len⟩
 have lt : m < H.length := (List.getElem?_eq_some_iff.mp q).1
 have ht : m ∉ T := fun z => by have := h m z hm; omega
 rcases a.old m o hm q with h1 | ⟨kvs, rfl, h1⟩
 ·exact b.old m o ht h1
 ·rcases b.old m _ ht h1 with h2 | ⟨k2, e, _⟩
  ·exact .inr ⟨kvs, rfl, h2⟩
  ·cases e
theorem Fm.lst {S : List Nat} {H H' : HD} (x : Fm S H H') {m : Nat} {xs : List D} (hm : m ∉ S) (h : H[m]? = some (.lst xs)) : H'[m]? = some (.lst xs) := by
 rcases x.old m _ hm h with h1 | ⟨k2, e, _⟩
 ·exact h1
 ·cases e
theorem Fm.fr {S : List Nat} {H H' : HD} (x : Fm S H H') {m : Nat} {kvs : List (D × D)} (hm : m ∉ S) (h : H[m]? = some (.dic kvs true)) : H'[m]? = some (.dic kvs true) := by
 rcases x.old m _ hm h with h1 | ⟨k2, e, _⟩
 ·exact h1
 ·cases e
theorem isl {H : HD} {n : Nat} {xs : List D} (h : H[n]? = some (.lst xs)) : Zkh (.ref n) H = true := by simp [Zkh, h]
theorem Zv7 {H : HD} {n : Nat} {o : DO} (h : H[n]? = some o) : Zeg [(n, o)] H := by intro p hp; simp at hp; subst hp; exact h
theorem tyR {H : HD} {n : Nat} {xs : List D} (h : H[n]? = some (.lst xs)) : tyD (.ref n) H = some "list" := by simp [tyD, h]
theorem Zpw {H : HD} : Zeg [] H := by intro p hp; cases hp
theorem last {H : HD} {o : DO} : (H ++ [o])[H.length]? = some o := by simp
theorem appL {H : HD} {n : Nat} {o u : DO} (h : H[n]? = some o) : (H ++ [u])[n]? = some o := by
 rw [List.getElem?_append_left (List.getElem?_eq_some_iff.mp h).1]; exact h
theorem setO {H : HD} {n m : Nat} {o u : DO} (hn : n ≠ m) (h : H[m]? = some o) : (H.set n u)[m]? = some o := by rw [List.getElem?_set_ne hn]; exact h
theorem Zw4 {H : HD} {n : Nat} {o u : DO} (h : H[n]? = some u) : (H.set n o)[n]? = some o := List.getElem?_set_self (List.getElem?_eq_some_iff.mp h).1
structure Fine (d : D) (x : PyData) (h : Nat) : Prop where
 to : ∀ H n, toP H n d = some x
 lay : x.canLay0 = true
 dep : x.depth ≤ h
theorem Fine.le {d : D} {x : PyData} {h h' : Nat} (f : Fine d x h) (l : h ≤ h') : Fine d x h' := ⟨f.to, f.lay, Nat.le_trans f.dep l⟩
theorem Fine.int (i : Int) : Fine (.int i) (.int i) 0 := ⟨fun H n => Zia H n i, rfl, Nat.le_refl _⟩
theorem Fine.bl (b : Bool) : Fine (.bl b) (.bool b) 0 := ⟨fun H n => Zn4 H n b, rfl, Nat.le_refl _⟩
theorem Fine.str {s : Str} (h : PyData.strOk s = true) : Fine (.str s) (.str s) 0 := ⟨fun H n => Zkl H n s, h, Nat.le_refl _⟩
structure Fines (ds : List D) (xs : List PyData) (h : Nat) : Prop where
 to : ∀ H n, Zgo H n ds = some xs
 lay : PyData.canLayAll0 xs = true
 dep : PyData.depthAll xs ≤ h
 len : xs.length = ds.length
theorem Fines.nil {h : Nat} : Fines [] [] h := ⟨fun H n => by rw [Zgo], rfl, Nat.zero_le _, rfl⟩
theorem Fines.cons {d : D} {x : PyData} {ds : List D} {xs : List PyData} {h : Nat} (a : Fine d x h) (b : Fines ds xs h) : Fines (d :: ds) (x :: xs) h :=
 ⟨fun H n => by rw [Zgo, a.to, b.to]; rfl, by simp [PyData.canLayAll0, a.lay, b.lay], by simp only [PyData.depthAll]; exact Nat.max_le.mpr ⟨a.dep, b.dep⟩, by simp [b.len]⟩
theorem Fines.of {h : Nat} : ∀ ds : List D, (∀ d ∈ ds, ∃ x, Fine d x h) -> ∃ xs, Fines ds xs h
 | [], _ => ⟨[], .nil⟩
 | d :: ds, f => by
  obtain ⟨x, a⟩ := f d (by simp)
  obtain ⟨xs, b⟩ := Fines.of ds fun e he => f e (by simp [he])
  exact ⟨x :: xs, .cons a b⟩
theorem Fine.tup {ds : List D} {xs : List PyData} {h : Nat} (f : Fines ds xs h) : Fine (.tup ds) (.tuple xs) (h + 1) :=
 ⟨fun H n => by cases n <;> rw [toP, f.to] <;> rfl, f.lay, Nat.succ_le_succ f.dep⟩
theorem Fine.dat {d : D} {x : PyData} {h : Nat} (f : Fine d x h) (l : h ≤ 30) (H : HD) : DL.dat d H = some x := by
 unfold DL.dat
 rw [f.to]
 have : x.depth ≤ 30 := Nat.le_trans f.dep l
 simp [okP, f.lay, this]
theorem Fines.dat {ds : List D} {xs : List PyData} {h : Nat} (f : Fines ds xs h) (l : h < 30) {H : HD} {p : Nat} (g : H[p]? = some (.lst ds)) : DL.dat (.ref p) H = some (.list xs) := by
 unfold DL.dat
 rw [toP]
 simp only [g]
 rw [f.to]
 have : (PyData.list xs).depth ≤ 30 := Nat.le_trans (Nat.succ_le_succ f.dep) l
 have h2 : (PyData.list xs).canLay0 = true := f.lay
 simp [okP, h2, this]
mutual
theorem Zft : ∀ x : PyData, x.canLay0 = true -> PyData.eqv x x = true
 | .none, _ => by simp [PyData.eqv]
 | .bool _, _ => by simp [PyData.eqv]
 | .int _, _ => by simp [PyData.eqv]
 | .str _, _ => by simp [PyData.eqv]
 | .list xs, h => by rw [PyData.eqv]; exact Zff xs h
 | .tuple xs, h => by rw [PyData.eqv]; exact Zff xs h
 | .dict _, h => by cases h
theorem Zff : ∀ xs : List PyData, PyData.canLayAll0 xs = true -> PyData.eqvAll xs xs = true
 | [], _ => by rw [PyData.eqvAll]
 | x :: xs, h => by
  simp only [PyData.canLayAll0, Bool.and_eq_true] at h
  rw [PyData.eqvAll, Zft x h.1, Zff xs h.2]; rfl
end
theorem Zmc {a b : D} {x y : PyData} {H : HD} (h1 : dat a H = some x) (h2 : dat b H = some y) : eqD a b H = some (.bl (PyData.eqv x y), H) := by
 unfold eqD
 cases e : Zof a b with
 | none => rw [h1, h2]; rfl
 | some p =>
  obtain ⟨s, t⟩ := p
  unfold Zof at e
  split at e
  ·cases e
   unfold dat at h1 h2
   rw [Zkl] at h1 h2
   simp only [Zb] at h1 h2
   split at h1
   ·split at h2
    ·cases h1; cases h2; simp [PyData.eqv]
    ·cases h2
   ·cases h1
  ·cases e
theorem Zrc {a b : D} {x y : PyData} {H : HD} (h1 : dat a H = some x) (h2 : dat b H = some y) : neD a b H = some (.bl (!PyData.eqv x y), H) := by
 unfold neD
 cases e : Zof a b with
 | none => rw [h1, h2]; rfl
 | some p =>
  obtain ⟨s, t⟩ := p
  unfold Zof at e
  split at e
  ·cases e
   unfold dat at h1 h2
   rw [Zkl] at h1 h2
   simp only [Zb] at h1 h2
   split at h1
   ·split at h2
    ·cases h1; cases h2; simp [PyData.eqv]; rfl
    ·cases h2
   ·cases h1
  ·cases e
variable {H : HD} {Q : D -> HD -> Prop}
theorem Zxs {a b : D} {x y : PyData} {h k : Nat} (f : Fine a x h) (g : Fine b y k) (hh : h ≤ 30) (hk : k ≤ 30) (q : Q (.bl (PyData.eqv x y)) H) : wE (eqD a b H) Q := ⟨_, _, Zmc (f.dat hh H) (g.dat hk H), q⟩
theorem Zua {a b : D} {x y : PyData} {h k : Nat} (f : Fine a x h) (g : Fine b y k) (hh : h ≤ 30) (hk : k ≤ 30) (q : Q (.bl (!PyData.eqv x y)) H) : wE (neD a b H) Q := ⟨_, _, Zrc (f.dat hh H) (g.dat hk H), q⟩
theorem Ztw {a : D} {x : PyData} {h : Nat} (f : Fine a x h) (hh : h ≤ 30) (q : Q (.bl false) H) : wE (neD a a H) Q := Zua f f hh hh (by rw [Zft x f.lay]; exact q)
theorem Zwl {xs : List D} {ys : List PyData} {h : Nat} (f : Fines xs ys h) : PyData.eqv (.tuple ys) (.tuple []) = xs.isEmpty := by
 have := f.len
 cases ys with
 | nil => cases xs with
  | nil => rfl
  | cons _ _ => simp at this
 | cons p ps => cases xs with
  | nil => simp at this
  | cons _ _ => simp [PyData.eqv, PyData.eqvAll]
theorem Zxd {xs : List D} {ys : List PyData} {h : Nat} (f : Fines xs ys h) (hh : h < 30) (q : Q (.bl (!xs.isEmpty)) H) : wE (neD (.tup xs) (.tup []) H) Q :=
 Zua (Fine.tup f) (Fine.tup (Fines.nil (h := 0))) (by omega) (by omega) (by rw [Zwl f]; exact q)
theorem w_inL {a : D} {x : PyData} {h k p : Nat} {ds : List D} {xs : List PyData} (f : Fine a x h) (g : Fines ds xs k) (hh : h ≤ 30) (hk : k < 30) (hp : H[p]? = some (.lst ds)) (q : Q (.bl (xs.any fun z => PyData.eqv z x)) H) : wE (inD a (.ref p) H) Q :=
 ⟨_, _, by unfold inD; rw [f.dat hh, Zb, g.dat hk hp]; rfl, q⟩
theorem w_neI {i j : Int} (q : Q (.bl (!(i == j))) H) : wE (neD (.int i) (.int j) H) Q := Zua (.int i) (.int j) (by omega) (by omega) (by simpa [PyData.eqv] using q)
theorem w_neI' {i j : Int} {r : Bool} (hr : (i == j) = r) (q : Q (.bl (!r)) H) : wE (neD (.int i) (.int j) H) Q := w_neI (by rw [hr]; exact q)
end WP
set_option maxHeartbeats 8000000
namespace K08
open PySem L2 DL
noncomputable def k_TRUTHS : D := (.tup [(.bl false), (.bl true)])
noncomputable def k_MOST_ROWS : D := (.int 20)
noncomputable def Zdu : SF :=
 (Zaf (Zbh (eAn (eCB Zpb (Zaa (Zac 0) (Zaa (eC (.ty "int")) Zae))) (eNo (eCB Zpb (Zaa (Zac 0) (Zaa (eC (.ty "bool")) Zae))))))
 Zah)
noncomputable def Zet : FF := Zbp 1 1 Zdu
noncomputable def Zd8 : SF :=
 (Zaf (sIf (tNo (Zeq (eCB Zpb (Zaa (Zac 1) (Zaa (eC (.ty "tuple")) Zae))))) (Zaf (Zbh (eC (.bl false)))
 Zah) Zah)
 (Zaf (Zbu 2 (eC (.int 0)))
 (Zaf (Zev (iSq (Zac 1)) (gNm 3) (Zaf (sIf (Zqc (tNo (Zeq (Zai 1 Zet (Zaa (Zac 3) Zae)))) (Zqc (tOf (eOp leD (eCB Zu3 (Zaa (Zac 3) Zae)) (Zac 2))) (tOf (eOp gtD (eCB Zu3 (Zaa (Zac 3) Zae)) (Zac 0))))) (Zaf (Zbh (eC (.bl false)))
 Zah) Zah)
 (Zaf (Zbu 2 (eCB Zu3 (Zaa (Zac 3) Zae)))
 Zah)))
 (Zaf (Zbh (eC (.bl true)))
 Zah))))
noncomputable def Zc2 : FF := Zbp 2 4 Zd8
noncomputable def Zb1 : SF :=
 (Zaf (Zbu 1 eDN)
 (Zaf (Zev (Zs4 (Zaa (Zac 0) Zae)) (gTp 2 (gCn (gNm 2) (gCn (gNm 3) gNl))) (Zaf (Zcy (eDM Zio (Zac 1) (Zaa (Zac 3) (Zaa (Zac 2) Zae))))
 Zah))
 (Zaf (Zbh (Zac 1))
 Zah)))
noncomputable def Zcx : FF := Zbp 1 4 Zb1
noncomputable def Zcu : SF :=
 (Zaf (Zbu 3 (eIf (Zeq (Zac 2)) (Zac 1) (eUn Zmq (Zac 1))))
 (Zaf (Zbu 4 eDN)
 (Zaf (Zev (Zv2 (Zac 0)) (gNm 5) (Zaf (Zbu 6 (eIf (Zeq (Zac 5)) (eOp ixD (Zac 5) (eC (.int 0))) (eC (.int 0))))
 (Zaf (sIf (tOf (eOp eqD (Zac 6) (eUn Zmq (Zac 3)))) (Zaf (Zcy (eDM Zio (Zac 4) (Zaa (eSl (Zac 5) (Zb4 (eC (.int 1))) Zcg) (Zaa (eOp Zf7 (Zac 0) (Zac 5)) Zae))))
 Zah) (Zaf (sIf (tOf (eOp neD (Zac 6) (Zac 3))) (Zaf (Zcy (eDM Zio (Zac 4) (Zaa (Zac 5) (Zaa (eOp Zf7 (Zac 0) (Zac 5)) Zae))))
 Zah) Zah)
 Zah))
 Zah)))
 (Zaf (Zbh (Zac 4))
 Zah))))
noncomputable def Zav : FF := Zbp 3 7 Zcu
noncomputable def Za7 : SF :=
 (Zaf (Zbu 2 (Zai 1 Zcx (Zaa (Zac 0) Zae)))
 (Zaf (Zev (Znd (Zaa (Zac 1) Zae)) (gTp 2 (gCn (gNm 3) (gCn (gNm 4) gNl))) (Zaf (Zbu 2 (Zai 3 Zav (Zaa (Zac 2) (Zaa (Zac 3) (Zaa (Zac 4) Zae)))))
 Zah))
 (Zaf (Zbh (Zac 2))
 Zah)))
noncomputable def Zbq : FF := Zbp 2 5 Za7
noncomputable def Zc5 : SF :=
 (Zaf (Zbh (eIf (tOf (eOp eqD (Zac 0) (eC (.str "some")))) (eC (.str "all")) (eC (.str "some"))))
 Zah)
noncomputable def Zci : FF := Zbp 1 1 Zc5
noncomputable def Zao (F : FF) : SF :=
 (Zaf (sIf (tOf (eOp dinD (Zdg Zae) (Zac 1))) (Zaf (Zbh (eC (.str "all")))
 Zah) Zah)
 (Zaf (sIf (tOf (eOp eqD (eCB Zoi (Zaa (Zac 1) Zae)) (eC (.int 0)))) (Zaf (Zbh (eC (.str "some")))
 Zah) Zah)
 (Zaf (Zbu 3 (eOp ixD (Zac 0) (Zac 2)))
 (Zaf (Zev (iSq (eC k_TRUTHS)) (gNm 4) (Zaf (sIf (tOf (eOp eqD (Zai 3 F (Zaa (Zac 0) (Zaa (Zai 3 Zav (Zaa (Zac 1) (Zaa (eOp Zbn (Zac 2) (eC (.int 1))) (Zaa (Zac 4) Zae)))) (Zaa (eOp Zbn (Zac 2) (eC (.int 1))) Zae)))) (Zac 3))) (Zaf (Zbh (Zac 3))
 Zah) Zah)
 Zah))
 (Zaf (Zbh (Zai 1 Zci (Zaa (Zac 3) Zae)))
 Zah)))))
noncomputable def Zco : FF := Zxl 3 5 Zao 10
noncomputable def Zfq : SF :=
 (Zaf (Zbh (Zai 3 Zco (Zaa (eOp ixD (Zac 0) (eC (.int 0))) (Zaa (Zai 2 Zbq (Zaa (eOp ixD (Zac 0) (eC (.int 1))) (Zaa (Zac 1) Zae))) (Zaa (eCB Zdk (Zaa (Zac 1) Zae)) Zae)))))
 Zah)
noncomputable def Zg7 : FF := Zbp 2 2 Zfq
noncomputable def Zcb : SF :=
 (Zaf (Zbh (eAn (Zai 1 Zet (Zaa (Zac 0) Zae)) (eCh leD ltD (eC (.int 0)) (Zac 0) (Zac 1))))
 Zah)
noncomputable def Zc3 : FF := Zbp 2 2 Zcb
noncomputable def Zem : SF :=
 (Zaf (Zbu 2 (eOp ixD (Zdt (Zaa (eC (.int 2147483647)) (Zaa (eC (.int 2147483629)) (Zaa (eC (.int 2147483587)) (Zaa (eC (.int 2147483579)) (Zaa (eC (.int 2147483563)) (Zaa (eC (.int 2147483549)) (Zaa (eC (.int 2147483543)) Zae)))))))) (eOp Zdq (Zac 1) (eC (.int 7)))))
 (Zaf (Zbu 3 (eOp Zdq (eOp Znl (eOp Zbn (eOp Zdq (Zac 0) (eC (.int 998244353))) (eOp Znl (eC (.int 104729)) (eOp Zbn (Zac 1) (eC (.int 1))))) (eOp Zbn (eOp Zbn (eOp Znl (Zac 1) (Zac 1)) (eOp Znl (eC (.int 7)) (Zac 1))) (eC (.int 13)))) (Zac 2)))
 (Zaf (Zbu 3 (eOp Zdq (eOp Zsl (Zac 3) (eC (.int 5))) (eC (.int 1000000007))))
 (Zaf (Zbu 3 (eOp Zdq (eOp Zbn (eOp Zbn (eOp Znl (Zac 3) (eC (.int 48271))) (eOp Znl (eC (.int 31)) (Zac 1))) (eC (.int 5))) (Zac 2)))
 (Zaf (Zbh (eOp Zoy (eOp Zdq (eOp Zsl (Zac 3) (eC (.int 3))) (eC (.int 998244353))) (eC (.int 8))))
 Zah)))))
noncomputable def Zh3 : FF := Zbp 2 4 Zem
noncomputable def Zc8 : SF :=
 (Zaf (Zbu 2 (Zdt Zae))
 (Zaf (Zbu 3 (eCB Zu3 (Zaa (Zac 0) Zae)))
 (Zaf (Zbu 4 (eOp geD (Zac 3) (eOp Zsl (eC (.int 10)) (eC (.int 18)))))
 (Zaf (Zev (iR1 (Zaa (Zac 1) Zae)) (gNm 5) (Zaf (sIf (tAn (Zeq (Zac 4)) (tOf (eOp gtD (Zac 3) (eC (.int 0))))) (Zaf (Zcy (eLM Zce (Zac 2) (Zaa (eOp Zdq (Zac 3) (eC (.int 10007))) Zae)))
 (Zaf (Zbu 3 (eOp Zoy (Zac 3) (eC (.int 10007))))
 Zah)) (Zaf (Zcy (eLM Zce (Zac 2) (Zaa (Zai 2 Zh3 (Zaa (Zac 0) (Zaa (Zac 5) Zae))) Zae)))
 Zah))
 Zah))
 (Zaf (Zbh (Zac 2))
 Zah)))))
noncomputable def Zcl : FF := Zbp 2 6 Zc8
noncomputable def Zfn : SF :=
 (Zaf (sIf (tOf (eOp ltD (Zac 1) (eCB Zdk (Zaa (Zac 0) Zae)))) (Zaf (Zbh (eOp ixD (Zac 0) (Zac 1)))
 Zah) Zah)
 (Zaf (Zbh (eOp Zbn (eOp Zbn (eOp Znl (eC (.int 67)) (Zac 1)) (eC (.int 19))) (eCB Zdk (Zaa (Zac 0) Zae))))
 Zah))
noncomputable def Zd4 : FF := Zbp 2 2 Zfn
noncomputable def Zdm : SF :=
 (Zaf (Zbu 2 (Zdt Zae))
 (Zaf (Zev (iR1 (Zaa (Zac 1) Zae)) (gNm 3) (Zaf (Zbu 4 (eOp ixD (Zdt (Zaa (eC (.str "all")) (Zaa (eC (.str "some")) Zae))) (eOp Zdq (eOp ixD (Zac 0) (eOp Zbn (eC (.int 1)) (Zac 3))) (eC (.int 2)))))
 (Zaf (sIf (tOf (eOp eqD (eOp Zdq (eOp ixD (Zac 0) (eC (.int 0))) (eC (.int 4))) (eC (.int 1)))) (Zaf (Zbu 4 (eOp ixD (Zdt (Zaa (eC (.str "some")) (Zaa (eC (.str "all")) Zae))) (eOp Zdq (eOp Zbn (Zac 3) (eOp ixD (Zac 0) (eC (.int 1)))) (eC (.int 2)))))
 Zah) Zah)
 (Zaf (sIf (tOf (eOp eqD (eOp Zdq (eOp ixD (Zac 0) (eC (.int 0))) (eC (.int 4))) (eC (.int 2)))) (Zaf (Zbu 4 (eOp ixD (Zdt (Zaa (eC (.str "all")) (Zaa (eC (.str "some")) Zae))) (eCB Yam (Zaa (eOp gtD (eOp Zdq (eOp ixD (Zac 0) (eOp Zbn (eC (.int 1)) (Zac 3))) (eC (.int 3))) (eC (.int 0))) Zae))))
 Zah) Zah)
 (Zaf (Zcy (eLM Zce (Zac 2) (Zaa (Zac 4) Zae)))
 Zah)))))
 (Zaf (Zbh (eCB Zfv (Zaa (Zac 2) Zae)))
 Zah)))
noncomputable def Ze9 : FF := Zbp 2 5 Zdm
noncomputable def Zen : SF :=
 (Zaf (Zbu 3 (Zai 2 Zcl (Zaa (Zac 0) (Zaa (eOp Zbn (Zac 1) (eC (.int 1))) Zae))))
 (Zaf (Zbu 4 (Zdt Zae))
 (Zaf (Zev (iR1 (Zaa (Zac 1) Zae)) (gNm 5) (Zaf (sIf (tOf (eOp ltD (eOp Zdq (eOp ixD (Zac 3) (eOp Zbn (eC (.int 1)) (Zac 5))) (eOp Zbn (Zac 1) (eC (.int 1)))) (eOp Zbn (Zac 2) (eOp Zdq (eOp ixD (Zac 3) (eC (.int 0))) (eC (.int 3)))))) (Zaf (Zcy (eLM Zce (Zac 4) (Zaa (eOp ixD (Zdt (Zaa (eOp Zbn (Zac 5) (eC (.int 1))) (Zaa (eOp Zmz (eOp Zmz (eC (.int 0)) (Zac 5)) (eC (.int 1))) Zae))) (eOp Zdq (eOp Zoy (eOp ixD (Zac 3) (eOp Zbn (eC (.int 1)) (Zac 5))) (eOp Zbn (Zac 1) (eC (.int 1)))) (eC (.int 2)))) Zae)))
 Zah) Zah)
 Zah))
 (Zaf (Zbh (eCB Zfv (Zaa (Zac 4) Zae)))
 Zah))))
noncomputable def Zdv : FF := Zbp 3 6 Zen
noncomputable def Zbt : SF :=
 (Zaf (Zbu 2 (Zai 3 Zdv (Zaa (eOp ixD (Zac 1) (eC (.int 0))) (Zaa (Zac 0) (Zaa (eC (.int 1)) Zae)))))
 (Zaf (Zbu 3 (eOp Zdq (eOp ixD (Zac 1) (eC (.int 1))) (eOp Zbn (eCB Zdk (Zaa (Zac 2) Zae)) (eC (.int 1)))))
 (Zaf (Zbu 4 (eOp ixD (Zdt (Zaa (eOp Zbn (Zac 0) (eC (.int 1))) (Zaa (eOp Zmz (eUn Zmq (eC (.int 1))) (Zac 0)) (Zaa (eC (.int 0)) (Zaa (eC (.bl true)) (Zaa (eC .non) (Zaa (eC (.str "1")) (Zaa (eOp Zsl (eC (.int 10)) (eC (.int 29))) (Zaa (Zdg (Zaa (eC (.int 1)) Zae)) (Zaa (Zdt (Zaa (eC (.int 1)) Zae)) Zae)))))))))) (eOp Zdq (eOp ixD (Zac 1) (eC (.int 2))) (eC (.int 9)))))
 (Zaf (sIf (tAn (tOf (eOp eqD (eOp Zdq (eOp ixD (Zac 1) (eC (.int 3))) (eC (.int 4))) (eC (.int 0)))) (tOf (eOp gtD (eCB Zdk (Zaa (Zac 2) Zae)) (eC (.int 1))))) (Zaf (Zbh (eRv (Zac 2)))
 Zah) Zah)
 (Zaf (sIf (tAn (tOf (eOp eqD (eOp Zdq (eOp ixD (Zac 1) (eC (.int 3))) (eC (.int 4))) (eC (.int 1)))) (tOf (eOp neD (Zac 2) (Zdg Zae)))) (Zaf (Zbh (eOp Zbn (eOp Zbn (eSl (Zac 2) Zcg (Zb4 (Zac 3))) (eSl (Zac 2) Zcg (Zb4 (eC (.int 1))))) (eSl (Zac 2) (Zb4 (Zac 3)) Zcg)))
 Zah) Zah)
 (Zaf (sIf (tOf (eOp eqD (eOp Zdq (eOp ixD (Zac 1) (eC (.int 3))) (eC (.int 4))) (eC (.int 2)))) (Zaf (Zbh (eOp Zbn (eOp Zbn (eSl (Zac 2) Zcg (Zb4 (Zac 3))) (Zdg (Zaa (Zac 4) Zae))) (eSl (Zac 2) (Zb4 (eOp Zbn (Zac 3) (eC (.int 1)))) Zcg)))
 Zah) Zah)
 (Zaf (Zbh (eOp Zbn (eOp Zbn (eSl (Zac 2) Zcg (Zb4 (Zac 3))) (Zdg (Zaa (Zac 4) Zae))) (eSl (Zac 2) (Zb4 (Zac 3)) Zcg)))
 Zah)))))))
noncomputable def Zbz : FF := Zbp 2 5 Zbt
noncomputable def Zcq : SF :=
 (Zaf (sIf (tOf (eOp eqD (eOp Zdq (eOp ixD (Zac 1) (eC (.int 4))) (eC (.int 2))) (eC (.int 0)))) (Zaf (Zbh (Zai 2 Zbz (Zaa (Zac 0) (Zaa (Zac 1) Zae))))
 Zah) Zah)
 (Zaf (Zbu 2 (eOp Zbn (eC (.int 1)) (eOp Zdq (eOp ixD (Zac 1) (eC (.int 0))) (eOp Zbn (Zac 0) (eC (.int 1))))))
 (Zaf (Zbu 3 (Zdt (Zaa (Zdg (Zaa (eOp Zbn (Zac 0) (eC (.int 1))) Zae)) (Zaa (Zdg (Zaa (eOp Zmz (eOp Zmz (eC (.int 0)) (Zac 0)) (eC (.int 1))) Zae)) (Zaa (Zdg (Zaa (eC (.int 0)) Zae)) (Zaa (Zdg (Zaa (eC (.bl true)) Zae)) (Zaa (Zdg (Zaa (eC (.str "1")) Zae)) (Zaa (eC .non) (Zaa (eC (.str "1")) (Zaa (Zac 2) (Zaa (Zdt Zae) (Zaa (Zdg (Zaa (Zac 2) (Zaa (Zac 2) Zae))) (Zaa (Zdg (Zaa (Zac 2) (Zaa (eUn Zmq (Zac 2)) Zae))) (Zaa (Zdg (Zaa (eC .non) Zae)) Zae))))))))))))))
 (Zaf (Zbu 3 (eOp Zbn (Zac 3) (Zdt (Zaa (Zdt (Zaa (Zac 2) Zae)) (Zaa (Zdg (Zaa (eOp Zsl (eC (.int 10)) (eC (.int 20))) Zae)) (Zaa (Zdg (Zaa (Zdg (Zaa (Zac 2) Zae)) Zae)) (Zaa (Zdg (Zaa (Zac 2) (Zaa (eC (.int 0)) Zae))) Zae)))))))
 (Zaf (sIf (tOf (eOp gtD (Zac 0) (eC (.int 1)))) (Zaf (Zbu 3 (eOp Zbn (Zac 3) (Zdt (Zaa (Zdg (Zaa (eC (.int 2)) (Zaa (eC (.int 1)) Zae))) (Zaa (Zdg (Zaa (Zac 0) (Zaa (eUn Zmq (eC (.int 1))) Zae))) (Zaa (Zdt (Zaa (eC (.int 1)) (Zaa (eC (.int 2)) Zae))) (Zaa (Zdg (Zaa (eC (.int 1)) (Zaa (eC (.int 2)) (Zaa (eC (.int 2)) Zae)))) Zae)))))))
 Zah) Zah)
 (Zaf (Zbh (eOp ixD (Zac 3) (eOp Zdq (eOp ixD (Zac 1) (eC (.int 1))) (eCB Zdk (Zaa (Zac 3) Zae)))))
 Zah))))))
noncomputable def Zcr : FF := Zbp 2 4 Zcq
noncomputable def Zbl : SF :=
 (Zaf (Zbh (eOp ixD (Zdt (Zaa (Zac 0) (Zaa (eUn Zmq (eC (.int 1))) (Zaa (eC (.bl true)) (Zaa (eC .non) (Zaa (eC (.str "0")) (Zaa (eOp Zsl (eC (.int 10)) (eC (.int 20))) (Zaa (Zdt (Zaa (eC (.int 0)) Zae)) (Zaa (eOp Zbn (Zac 0) (eC (.int 3))) (Zaa (Zdg (Zaa (eC (.int 0)) Zae)) (Zaa (eC (.bl false)) Zae))))))))))) (eOp Zdq (eOp ixD (Zac 1) (eC (.int 0))) (eC (.int 10)))))
 Zah)
noncomputable def Zdc : FF := Zbp 2 2 Zbl
noncomputable def Zdx : SF :=
 (Zaf (Zev (iSq (Zac 0)) (gNm 2) (Zaf (Zbu 3 (eLC (iSq (Zac 2)) [1] (tOf (eOp eqD (eOp ixD (Zac 1) (eOp Zmz (eCB Zu3 (Zaa (Zac 0) Zae)) (eC (.int 1)))) (eOp gtD (Zac 0) (eC (.int 0))))) (Zac 0)))
 (Zaf (sIf (tOf (eOp eqD (Zac 3) (Zdt Zae))) (Zaf (Zbh (eC (.bl true)))
 Zah) Zah)
 Zah)))
 (Zaf (Zbh (eC (.bl false)))
 Zah))
noncomputable def Zf9 : FF := Zbp 2 4 Zdx
noncomputable def Zc4 : SF :=
 (Zaf (Zbu 2 (Zdt (Zaa (Zdg Zae) Zae)))
 (Zaf (Zev (iSq (Zac 0)) (gNm 3) (Zaf (Zbu 2 (eOp Zbn (eLC (iSq (Zac 2)) [] Zx2 (eOp Zbn (Zac 0) (Zdg (Zaa (eC (.bl false)) Zae)))) (eLC (iSq (Zac 2)) [] Zx2 (eOp Zbn (Zac 0) (Zdg (Zaa (eC (.bl true)) Zae))))))
 Zah))
 (Zaf (Zbu 4 (eCB Zk0 (Zaa (eLC (iSq (Zac 2)) [1] Zx2 (Zdg (Zaa (Zac 0) (Zaa (eNo (Zai 2 Zf9 (Zaa (Zac 1) (Zaa (Zac 0) Zae)))) Zae)))) Zae)))
 (Zaf (Zev (iRB (Zaa (eOp Zmz (eCB Zdk (Zaa (Zac 0) Zae)) (eC (.int 1))) (Zaa (eUn Zmq (eC (.int 1))) (Zaa (eUn Zmq (eC (.int 1))) Zae)))) (gNm 5) (Zaf (Zbu 6 eDN)
 (Zaf (Zev (Zv2 (Zac 4)) (gNm 7) (Zaf (sIf (tNo (Zeq (eOp ixD (Zac 7) (Zac 5)))) (Zaf (Zbu 8 (Zdt (Zaa (eOp Zf7 (Zac 4) (Zac 7)) (Zaa (eOp Zf7 (Zac 4) (eOp Zbn (eSl (Zac 7) Zcg (Zb4 (Zac 5))) (Zdg (Zaa (eC (.bl true)) Zae)))) Zae))))
 (Zaf (Zx3 (eIf (tOf (eOp eqD (eOp ixD (Zac 0) (Zac 5)) (eC (.str "some")))) (eOp inD (eC (.bl true)) (Zac 8)) (eOp niD (eC (.bl false)) (Zac 8))) (gSb (Zac 6) (eSl (Zac 7) Zcg (Zb4 (Zac 5))) Zod))
 Zah)) Zah)
 Zah))
 (Zaf (Zbu 4 (Zac 6))
 Zah))))
 (Zaf (Zbh (eOp ixD (Zdt (Zaa (eC (.str "all")) (Zaa (eC (.str "some")) Zae))) (eCB Yam (Zaa (eOp Zf7 (Zac 4) (Zdg Zae)) Zae))))
 Zah)))))
noncomputable def Zcj : FF := Zbp 2 9 Zc4
noncomputable def Zcp : SF :=
 (Zaf (Zkg "Keeper" (Zac 0) (eCB Zfv (Zaa (Zac 1) Zae)) "kinds")
 (Zaf (Zkg "Keeper" (Zac 0) (Zdg Zae) "rows")
 (Zaf (Zkg "Keeper" (Zac 0) (Zdt Zae) "past")
 Zah)))
noncomputable def Zd1 : FF := Zbp 2 2 Zcp
noncomputable def Za6 : SF :=
 (Zaf (sIf (tNo (Zeq (Zai 2 Zc2 (Zaa (eCB Zdk (Zaa (Zh6 "Keeper" (Zac 0) "kinds") Zae)) (Zaa (Zac 1) Zae))))) (Zaf Zwf
 Zah) Zah)
 (Zaf (sIf (tOf (eOp geD (eCB Zdk (Zaa (Zh6 "Keeper" (Zac 0) "rows") Zae)) (eC k_MOST_ROWS))) (Zaf Zwf
 Zah) Zah)
 (Zaf (Zcy (eLM Zce (Zh6 "Keeper" (Zac 0) "past") (Zaa (Zh6 "Keeper" (Zac 0) "rows") Zae)))
 (Zaf (Zkg "Keeper" (Zac 0) (eOp Zbn (Zh6 "Keeper" (Zac 0) "rows") (Zdg (Zaa (Zac 1) Zae))) "rows")
 (Zaf (Zbh (eOp Zmz (eCB Zdk (Zaa (Zh6 "Keeper" (Zac 0) "rows") Zae)) (eC (.int 1))))
 Zah)))))
noncomputable def Zbg : FF := Zbp 2 2 Za6
noncomputable def Zap : XFs :=
 (xIf (tNo (Zeq (Zai 2 Zc2 (Zaa (eCB Zdk (Zaa (Zh6 "Keeper" (Zac 0) "kinds") Zae)) (Zaa (Zac 1) Zae))))) (Zfr (eC (.str "this is no row of these names"))))
noncomputable def Zay : XFF := Zl6 2 2 Zap
noncomputable def Zax : XFs :=
 (Zyd (sIf (tNo (Zeq (Zai 2 Zc2 (Zaa (eCB Zdk (Zaa (Zh6 "Keeper" (Zac 0) "kinds") Zae)) (Zaa (Zac 1) Zae))))) (Zaf Zwf
 Zah) Zah)
 (xIf (tOf (eOp geD (eCB Zdk (Zaa (Zh6 "Keeper" (Zac 0) "rows") Zae)) (eC k_MOST_ROWS))) (Zfr (eJ (jC "more than " (jI (eC k_MOST_ROWS) (jC " rows" jNil)))))))
noncomputable def Zbb : XFF := Zl6 2 2 Zax
noncomputable def Zb2 : SF :=
 (Zaf (sIf (tNo (Zeq (Zai 2 Zc3 (Zaa (Zac 1) (Zaa (eCB Zdk (Zaa (Zh6 "Keeper" (Zac 0) "rows") Zae)) Zae))))) (Zaf Zwf
 Zah) Zah)
 (Zaf (Zcy (eLM Zce (Zh6 "Keeper" (Zac 0) "past") (Zaa (Zh6 "Keeper" (Zac 0) "rows") Zae)))
 (Zaf (Zkg "Keeper" (Zac 0) (eOp Zbn (eSl (Zh6 "Keeper" (Zac 0) "rows") Zcg (Zb4 (Zac 1))) (eSl (Zh6 "Keeper" (Zac 0) "rows") (Zb4 (eOp Zbn (Zac 1) (eC (.int 1)))) Zcg)) "rows")
 Zah)))
noncomputable def Zb0 : FF := Zbp 2 2 Zb2
noncomputable def Za2 : XFs :=
 (xIf (tNo (Zeq (Zai 2 Zc3 (Zaa (Zac 1) (Zaa (eCB Zdk (Zaa (Zh6 "Keeper" (Zac 0) "rows") Zae)) Zae))))) (Zfr (eC (.str "there is no row of this number"))))
noncomputable def Zbs : XFF := Zl6 2 2 Za2
noncomputable def Zbj : SF :=
 (Zaf (sIf (tOf (eOp eqD (eCB Zdk (Zaa (Zh6 "Keeper" (Zac 0) "past") Zae)) (eC (.int 0)))) (Zaf Zwf
 Zah) Zah)
 (Zaf (Zkg "Keeper" (Zac 0) (Yai Zow (Zh6 "Keeper" (Zac 0) "past")) "rows")
 Zah))
noncomputable def Zb5 : FF := Zbp 1 1 Zbj
noncomputable def Zaw : XFs :=
 (xIf (tOf (eOp eqD (eCB Zdk (Zaa (Zh6 "Keeper" (Zac 0) "past") Zae)) (eC (.int 0)))) (Zfr (eC (.str "no put and no out stands"))))
noncomputable def Zb7 : XFF := Zl6 1 1 Zaw
noncomputable def Zb6 : SF :=
 (Zaf (Zbu 3 (eC (.str "")))
 (Zaf (Zrk 4 (Zaf (sIf (tOf (eOp eqD (Zac 1) (eC (.str "put")))) (Zaf (Zcy (Zdd "Keeper" "put" 2 Zbg (Zac 0) (Zaa (Zac 2) Zae)))
 Zah) (Zaf (sIf (tOf (eOp eqD (Zac 1) (eC (.str "out")))) (Zaf (Zcy (Zdd "Keeper" "out" 2 Zb0 (Zac 0) (Zaa (Zac 2) Zae)))
 Zah) (Zaf (Zcy (Zdd "Keeper" "back" 1 Zb5 (Zac 0) Zae))
 Zah))
 Zah))
 Zah) (Zya (tOf (eOp eqD (Zac 1) (eC (.str "put")))) (Zw8 (Zib "Keeper" "put" 2 "NoRow" Zay (Zac 0) (Zaa (Zac 2) Zae)) (Zib "Keeper" "put" 2 "TooMany" Zbb (Zac 0) (Zaa (Zac 2) Zae))) (Zya (tOf (eOp eqD (Zac 1) (eC (.str "out")))) (Zib "Keeper" "out" 2 "NoRow" Zbs (Zac 0) (Zaa (Zac 2) Zae)) (Zib "Keeper" "back" 1 "NoBack" Zb7 (Zac 0) Zae))) (Zaf (Zbu 5 (Zdt (Zaa (Zl3 [("NoRow", true), ("TooMany", false), ("NoBack", false)] (Zac 4)) (Zaa (Zl3 [("NoRow", false), ("TooMany", true), ("NoBack", false)] (Zac 4)) (Zaa (Zl3 [("NoRow", false), ("TooMany", false), ("NoBack", true)] (Zac 4)) (Zaa (eNo (Zl3 [("NoRow", true), ("TooMany", true), ("NoBack", true)] (Zac 4))) Zae))))))
 (Zaf (Zcy (eLM Zce (Zac 5) (Zaa (Zl3 [("NoRow", false), ("TooMany", false), ("NoBack", false)] (Zac 4)) Zae)))
 (Zaf (Zbu 3 (eOp Zbn (eCB strD (Zaa (eLM Zgc (Zac 5) (Zaa (eC (.bl true)) Zae)) Zae)) (eOp ixD (Zdt (Zaa (eC (.str "row")) (Zaa (eC (.str "many")) (Zaa (eC (.str "back")) (Zaa (eC (.str "odd")) (Zaa (eC (.str "odd")) Zae)))))) (eOp Zdq (eLM Zga (eOp Zbn (Zac 5) (Zdt (Zaa (eC (.bl true)) Zae))) (Zaa (eC (.bl true)) Zae)) (eC (.int 5))))))
 Zah))))
 (Zaf (Zbh (Zac 3))
 Zah)))
noncomputable def Zc1 : FF := Zbp 3 6 Zb6
noncomputable def Zbf : SF :=
 (Zaf (Zbu 3 (eCB Zot (Zaa (Zac 2) Zae)))
 (Zaf (Zbh (eAn (eOp eqD (Zai 3 Zc1 (Zaa (Zac 0) (Zaa (Zac 1) (Zaa (Zac 2) Zae)))) (eC (.str "1row"))) (eOp eqD (eCB Zot (Zaa (Zac 2) Zae)) (Zac 3))))
 Zah))
noncomputable def Za1 : FF := Zbp 3 4 Zbf
noncomputable def Zb3 : SF :=
 (Zaf (Zx3 (Zac 1) (gTl 2 (gCn (gNm 4) (gCn (gNm 5) gNl))))
 (Zaf (sIf (tOf (eOp eqD (Zac 2) (eC (.str "put")))) (Zaf (sIf (tOf (eOp eqD (eCB Zdk (Zaa (Zac 4) Zae)) (eC (.int 20)))) (Zaf (Zbh (eOp eqD (Zai 3 Zc1 (Zaa (Zac 0) (Zaa (eC (.str "put")) (Zaa (Zac 3) Zae)))) (eC (.str "1many"))))
 Zah) Zah)
 (Zaf (Zbu 6 (Zdd "Keeper" "put" 2 Zbg (Zac 0) (Zaa (Zac 3) Zae)))
 (Zaf (Zcy (eLM Zce (Zac 5) (Zaa (eCB Zkf (Zaa (Zac 4) Zae)) Zae)))
 (Zaf (Zcy (eLM Zce (Zac 4) (Zaa (Zac 3) Zae)))
 (Zaf (Zbh (eAn (eCB Zpb (Zaa (Zac 6) (Zaa (eC (.ty "int")) Zae))) (eAn (eNo (eCB Zpb (Zaa (Zac 6) (Zaa (eC (.ty "bool")) Zae)))) (eOp eqD (Zac 6) (eOp Zmz (eCB Zdk (Zaa (Zac 4) Zae)) (eC (.int 1)))))))
 Zah))))) Zah)
 (Zaf (sIf (tOf (eOp eqD (Zac 2) (eC (.str "out")))) (Zaf (Zcy (eLM Zce (Zac 5) (Zaa (eCB Zkf (Zaa (Zac 4) Zae)) Zae)))
 (Zaf (Zcy (eLM Zzk (Zac 4) (Zaa (Zac 3) Zae)))
 (Zaf (Zbh (eOp isD (Zdd "Keeper" "out" 2 Zb0 (Zac 0) (Zaa (Zac 3) Zae)) (eC .non)))
 Zah))) Zah)
 (Zaf (sIf (tOf (eOp eqD (Zac 5) (Zdt Zae))) (Zaf (Zbh (eOp eqD (Zai 3 Zc1 (Zaa (Zac 0) (Zaa (eC (.str "back")) (Zaa (eC .non) Zae)))) (eC (.str "1back"))))
 Zah) Zah)
 (Zaf (Zx3 (Yai Zow (Zac 5)) (gSb (Zac 1) (eC (.int 0)) Zzh))
 (Zaf (Zbh (eOp isD (Zdd "Keeper" "back" 1 Zb5 (Zac 0) Zae) (eC .non)))
 Zah))))))
noncomputable def Zbc : FF := Zbp 4 7 Zb3
noncomputable def Zd0 : SF :=
 (Zaf (Zbu 4 (eSl (Zai 2 Zcl (Zaa (Zac 3) (Zaa (eC (.int 24)) Zae))) (Zb4 (eC (.int 14))) Zcg))
 (Zaf (Zbu 5 (eOp Zdq (eOp ixD (Zac 4) (eC (.int 0))) (eC (.int 9))))
 (Zaf (sIf (tOf (eOp ltD (Zac 5) (eC (.int 4)))) (Zaf (Zbh (Zai 4 Zbc (Zaa (Zac 0) (Zaa (Zac 1) (Zaa (eC (.str "put")) (Zaa (Zai 3 Zdv (Zaa (Zac 3) (Zaa (Zac 2) (Zaa (eC (.int 1)) Zae)))) Zae))))))
 Zah) Zah)
 (Zaf (sIf (tOf (eOp eqD (Zac 5) (eC (.int 4)))) (Zaf (Zbh (Zai 3 Za1 (Zaa (Zac 0) (Zaa (eC (.str "put")) (Zaa (Zai 2 Zcr (Zaa (Zac 2) (Zaa (eSl (Zac 4) (Zb4 (eC (.int 1))) Zcg) Zae))) Zae)))))
 Zah) Zah)
 (Zaf (sIf (tOf (eOp eqD (Zac 5) (eC (.int 5)))) (Zaf (Zbh (Zai 3 Za1 (Zaa (Zac 0) (Zaa (eC (.str "out")) (Zaa (Zai 2 Zdc (Zaa (eCB Zdk (Zaa (eOp ixD (Zac 1) (eC (.int 0))) Zae)) (Zaa (eSl (Zac 4) (Zb4 (eC (.int 1))) Zcg) Zae))) Zae)))))
 Zah) Zah)
 (Zaf (sIf (tAn (tOf (eOp eqD (Zac 5) (eC (.int 6)))) (tOf (eOp neD (eOp ixD (Zac 1) (eC (.int 0))) (Zdt Zae)))) (Zaf (Zbh (Zai 4 Zbc (Zaa (Zac 0) (Zaa (Zac 1) (Zaa (eC (.str "out")) (Zaa (eOp Zdq (eOp ixD (Zac 4) (eC (.int 1))) (eCB Zdk (Zaa (eOp ixD (Zac 1) (eC (.int 0))) Zae))) Zae))))))
 Zah) Zah)
 (Zaf (Zbh (Zai 4 Zbc (Zaa (Zac 0) (Zaa (Zac 1) (Zaa (eC (.str "back")) (Zaa (eC .non) Zae))))))
 Zah)))))))
noncomputable def Zgm : FF := Zbp 4 6 Zd0
noncomputable def Zb9 : SF :=
 (Zaf (Zbh (Zdg (Zaa (Zh6 "Keeper" (Zac 0) "kinds") (Zaa (Zh6 "Keeper" (Zac 0) "rows") Zae))))
 Zah)
noncomputable def Za9 : FF := Zbp 1 1 Zb9
noncomputable def Zc6 : SF :=
 (Zaf (Zbu 3 (Zdd "Keeper" "claim" 1 Za9 (Zac 0) Zae))
 (Zaf (sIf (Zqc (tNo (Zeq (eCB Zpb (Zaa (Zac 3) (Zaa (eC (.ty "tuple")) Zae))))) (tNo (Zeq (eCB Zpb (Zaa (eOp ixD (Zac 3) (eC (.int 1))) (Zaa (eC (.ty "tuple")) Zae)))))) (Zaf (Zbh (eC (.bl false)))
 Zah) Zah)
 (Zaf (Zbh (eOp eqD (Zac 3) (Zdg (Zaa (Zac 1) (Zaa (eCB Zfv (Zaa (eOp ixD (Zac 2) (eC (.int 0))) Zae)) Zae)))))
 Zah)))
noncomputable def Zbw : FF := Zbp 3 4 Zc6
noncomputable def Zdw : SF :=
 (Zaf (Zbu 3 (Zai 3 Zdv (Zaa (Zac 2) (Zaa (Zac 1) (Zaa (eC (.int 1)) Zae)))))
 (Zaf (Zbu 4 (eOp Zbn (eC (.int 50)) (eOp Zdq (Zac 2) (eC (.int 80)))))
 (Zaf (Zev (iR1 (Zaa (Zac 4) Zae)) (gNm 5) (Zaf (sIf (Zqc (tOf (eOp neD (Zdd "Keeper" "put" 2 Zbg (Zac 0) (Zaa (Zac 3) Zae)) (eC (.int 0)))) (tOf (eOp Zx8 (Zdd "Keeper" "out" 2 Zb0 (Zac 0) (Zaa (eC (.int 0)) Zae)) (eC .non)))) (Zaf (Zbh (eC (.bl false)))
 Zah) Zah)
 Zah))
 (Zaf (Zev (iR1 (Zaa (eOp Znl (eC (.int 2)) (Zac 4)) Zae)) (gNm 5) (Zaf (sIf (Zqc (tOf (eOp neD (eOp ixD (Zdd "Keeper" "claim" 1 Za9 (Zac 0) Zae) (eC (.int 1))) (eOp ixD (Zdt (Zaa (Zdg Zae) (Zaa (Zdg (Zaa (Zac 3) Zae)) Zae))) (eOp Zdq (Zac 5) (eC (.int 2)))))) (tOf (eOp Zx8 (Zdd "Keeper" "back" 1 Zb5 (Zac 0) Zae) (eC .non)))) (Zaf (Zbh (eC (.bl false)))
 Zah) Zah)
 Zah))
 (Zaf (Zbh (eC (.bl true)))
 Zah)))))
noncomputable def Zes : FF := Zbp 3 6 Zdw
noncomputable def Zbx : SF :=
 (Zaf (Zbh (Zai 2 Zg7 (Zaa (Zdd "Keeper" "claim" 1 Za9 (Zac 0) Zae) (Zaa (Zdg Zae) Zae))))
 Zah)
noncomputable def Zbd : FF := Zbp 1 1 Zbx
noncomputable def Zq8 : SF :=
 (Zaf (Zbu 1 (Zai 2 Zcl (Zaa (Zai 2 Zd4 (Zaa (Zac 0) (Zaa (eC (.int 0)) Zae))) (Zaa (eC (.int 12)) Zae))))
 (Zaf (Zbu 2 (Zai 2 Ze9 (Zaa (eSl (Zac 1) (Zb4 (eC (.int 1))) Zcg) (Zaa (eOp Zdq (eOp ixD (Zac 1) (eC (.int 0))) (eC (.int 9))) Zae))))
 (Zaf (Zbu 3 (eMk "Keeper" 2 Zd1 (Zaa (Zac 2) Zae)))
 (Zaf (Zbu 4 (Zdt (Zaa (Zdt Zae) (Zaa (Zdt Zae) Zae))))
 (Zaf (Zev (iSq (eOp Zbn (Zdt (Zaa (eC (.int 2)) Zae)) (eCB Zkf (Zaa (Zac 0) Zae)))) (gNm 5) (Zaf (sIf (tNo (Zeq (Zai 4 Zgm (Zaa (Zac 3) (Zaa (Zac 4) (Zaa (eCB Zdk (Zaa (Zac 2) Zae)) (Zaa (Zac 5) Zae))))))) (Zaf (Zbh (eC (.bl false)))
 Zah) Zah)
 (Zaf (sIf (tAn (tOf (eOp eqD (eOp Zdq (eOp ixD (Zai 2 Zcl (Zaa (Zac 5) (Zaa (eC (.int 25)) Zae))) (eC (.int 24))) (eC (.int 3))) (eC (.int 0)))) (tNo (Zeq (Zai 3 Zbw (Zaa (Zac 3) (Zaa (Zac 2) (Zaa (Zac 4) Zae))))))) (Zaf (Zbh (eC (.bl false)))
 Zah) Zah)
 Zah)))
 (Zaf (sIf (tNo (Zeq (Zai 3 Zbw (Zaa (Zac 3) (Zaa (Zac 2) (Zaa (Zac 4) Zae)))))) (Zaf (Zbh (eC (.bl false)))
 Zah) Zah)
 (Zaf (Zev (iR1 (Zaa (eOp Zmz (eC (.int 22)) (eCB Zdk (Zaa (eOp ixD (Zac 4) (eC (.int 0))) Zae))) Zae)) (gNm 6) (Zaf (sIf (tNo (Zeq (Zai 4 Zbc (Zaa (Zac 3) (Zaa (Zac 4) (Zaa (eC (.str "put")) (Zaa (Zai 3 Zdv (Zaa (Zac 6) (Zaa (eCB Zdk (Zaa (Zac 2) Zae)) (Zaa (eC (.int 2)) Zae)))) Zae))))))) (Zaf (Zbh (eC (.bl false)))
 Zah) Zah)
 (Zaf (sIf (tNo (Zeq (Zai 3 Zbw (Zaa (Zac 3) (Zaa (Zac 2) (Zaa (Zac 4) Zae)))))) (Zaf (Zbh (eC (.bl false)))
 Zah) Zah)
 Zah)))
 (Zaf (sIf (tOf (eOp neD (Zdd "Keeper" "winner" 1 Zbd (Zac 3) Zae) (Zai 2 Zcj (Zaa (Zac 2) (Zaa (eOp ixD (Zac 4) (eC (.int 0))) Zae))))) (Zaf (Zbh (eC (.bl false)))
 Zah) Zah)
 (Zaf (Zbu 7 (Zai 2 Zcr (Zaa (eCB Zdk (Zaa (Zac 2) Zae)) (Zaa (eSl (Zac 1) (Zb4 (eC (.int 2))) Zcg) Zae))))
 (Zaf (Zev (iSq (Zdt (Zaa (Zdg (Zaa (eOp Zbn (eCB Zdk (Zaa (Zac 2) Zae)) (eC (.int 1))) Zae)) (Zaa (Zac 7) (Zaa (Zai 2 Zbz (Zaa (eCB Zdk (Zaa (Zac 2) Zae)) (Zaa (eSl (Zac 1) (Zb4 (eC (.int 6))) Zcg) Zae))) Zae))))) (gNm 8) (Zaf (sIf (tNo (Zeq (Zai 3 Za1 (Zaa (Zac 3) (Zaa (eC (.str "put")) (Zaa (Zac 8) Zae)))))) (Zaf (Zbh (eC (.bl false)))
 Zah) Zah)
 (Zaf (sIf (tOf (eOp neD (Zdd "Keeper" "winner" 1 Zbd (Zac 3) Zae) (Zai 2 Zcj (Zaa (Zac 2) (Zaa (eOp ixD (Zac 4) (eC (.int 0))) Zae))))) (Zaf (Zbh (eC (.bl false)))
 Zah) Zah)
 Zah)))
 (Zaf (Zev (iR1 (Zaa (eOp Zbn (eCB Zdk (Zaa (eOp ixD (Zac 4) (eC (.int 1))) Zae)) (eC (.int 1))) Zae)) (gNm 6) (Zaf (sIf (tNo (Zeq (Zai 4 Zbc (Zaa (Zac 3) (Zaa (Zac 4) (Zaa (eC (.str "back")) (Zaa (eC .non) Zae))))))) (Zaf (Zbh (eC (.bl false)))
 Zah) Zah)
 (Zaf (sIf (tAn (tOf (eOp eqD (eOp Zdq (Zac 6) (eC (.int 3))) (eOp Zdq (eOp ixD (Zac 1) (eC (.int 11))) (eC (.int 3))))) (tNo (Zeq (Zai 3 Zbw (Zaa (Zac 3) (Zaa (Zac 2) (Zaa (Zac 4) Zae))))))) (Zaf (Zbh (eC (.bl false)))
 Zah) Zah)
 Zah)))
 (Zaf (sIf (tAn (tOf (eOp eqD (eOp Zdq (Zai 2 Zd4 (Zaa (Zac 0) (Zaa (eC (.int 0)) Zae))) (eC (.int 4))) (eC (.int 1)))) (tNo (Zeq (Zai 3 Zes (Zaa (Zac 3) (Zaa (eCB Zdk (Zaa (Zac 2) Zae)) (Zaa (Zai 2 Zd4 (Zaa (Zac 0) (Zaa (eC (.int 1)) Zae))) Zae))))))) (Zaf (Zbh (eC (.bl false)))
 Zah) Zah)
 (Zaf (Zbh (eOp eqD (Zdd "Keeper" "claim" 1 Za9 (Zac 3) Zae) (Zdg (Zaa (Zac 2) (Zaa (Zdg Zae) Zae)))))
 Zah)))))))))))))
noncomputable def Zo2 : FF := Zbp 1 9 Zq8
end K08
set_option maxHeartbeats 4000000
namespace WP
open PySem L2 DL LH
section
variable {σ : SD} {H : HD} {Q : D -> HD -> Prop} {R : FD -> SD -> HD -> Prop} {cn f m : Str} {fo fv : EF} {fa : AF} {F : FF} {k : Nat}
theorem Zc7 (h : wE (fo σ H) fun d H1 => ∃ n fs, d = .ref n ∧ H1[n]? = some (.obj cn fs) ∧ ∃ v, fs.lookup f = some v ∧ Q v H1) : wE (Zh6 cn fo f σ H) Q := by
 obtain ⟨d, H1, e, n, fs, rfl, g, v, l, q⟩ := h
 exact ⟨v, H1, by unfold Zh6; rw [e]; simp only [Zb]; rw [g]; simp [l], q⟩
theorem Zjc (h : wE (fv σ H) fun y H1 => wE (fo σ H1) fun d H2 => ∃ n fs, d = .ref n ∧ H2[n]? = some (.obj cn fs) ∧ fs.length < 1000 ∧ R .nx σ (H2.set n (.obj cn (Zs5 f y fs)))) : wS (Zkg cn fo fv f σ H) R := by
 obtain ⟨y, H1, e1, d, H2, e, n, fs, rfl, g, l, q⟩ := h
 exact ⟨_, _, _, by unfold Zkg; rw [e1]; simp only [Zb]; rw [e]; simp only [Zb]; rw [g]; simp only; rw [if_pos ⟨trivial, l⟩], q⟩
theorem Zea (h : wE (fo σ H) fun d H1 => ∃ n fs, d = .ref n ∧ H1[n]? = some (.obj cn fs) ∧ fs.lookup m = none ∧ wA (fa σ H1) fun ds H2 => ds.length + 1 = k ∧ wE (F (.ref n :: ds) H2) Q) : wE (Zdd cn m k F fo fa σ H) Q := by
 obtain ⟨d, H1, e, n, fs, rfl, g, l, ds, H2, e2, hl, v, H3, e3, q⟩ := h
 exact ⟨v, H3, by unfold Zdd; rw [e]; simp only [Zb]; rw [g]; simp only; rw [if_pos ⟨trivial, l⟩, e2]; simp only [Zb]; rw [if_pos hl]; exact e3, q⟩
theorem w_mk (h : wA (fa σ H) fun ds H1 => ds.length + 1 = k ∧ wE (F (.ref H1.length :: ds) (H1 ++ [.obj cn []])) fun d H2 => d = .non ∧ Q (.ref H1.length) H2) : wE (eMk cn k F fa σ H) Q := by
 obtain ⟨ds, H1, e, hl, d, H2, e2, rfl, q⟩ := h
 exact ⟨_, H2, by unfold eMk; rw [e]; simp only [Zb]; rw [if_pos hl, e2]; rfl, q⟩
theorem Fm.obj {S : List Nat} {H H' : HD} (x : Fm S H H') {n : Nat} {cn : Str} {fs : List (Str × D)} (hm : n ∉ S) (h : H[n]? = some (.obj cn fs)) : H'[n]? = some (.obj cn fs) := by
 rcases x.old n _ hm h with h1 | ⟨k2, e, _⟩
 ·exact h1
 ·cases e
end
section
variable {σ : SD} {H : HD} {Q : D -> HD -> Prop} {R : FD -> SD -> HD -> Prop} {P : HD -> Prop} {PX : Str -> HD -> Prop} {cn m xn : Str} {fo : EF} {fa : AF} {k n N i : Nat} {t : TF} {ds : List D}
theorem Zg1 {f g : SF} (h : f σ H = none) : Zaf f g σ H = none := by unfold Zaf; rw [h]; rfl
theorem Zzf {f g : SF} (h : wS (f σ H) (Ztr (fun σ1 H1 => g σ1 H1 = none) fun _ _ _ => False)) : Zaf f g σ H = none := by
 obtain ⟨x, d, H1, e, h⟩ := h
 unfold Zaf
 rw [e]
 cases x with
 | nx => exact h
 | bk => exact h.elim
 | ct => exact h.elim
 | rt d => exact h.elim
theorem Zup {f g : SF} (h : wT (t σ H) fun b H1 => br b (f σ H1 = none) (g σ H1 = none)) : sIf t f g σ H = none := by
 obtain ⟨b, H1, e, h⟩ := h
 unfold sIf
 rw [e]
 cases b with
 | true => exact h.1 rfl
 | false => exact h.2 rfl
theorem Zuj {f : SF} : Zaf Zwf f σ H = none := rfl
theorem Zst {b : SF} (hl : ds.length = n) (h : b (ds.map some ++ List.replicate (N - ds.length) none) H = none) : Zbp n N b ds H = none := by
 unfold Zbp
 rw [if_pos hl, h]; rfl
theorem Zrw {F : FF} (h : wE (fo σ H) fun d H1 => ∃ n fs, d = .ref n ∧ H1[n]? = some (.obj cn fs) ∧ fs.lookup m = none ∧ wA (fa σ H1) fun ds H2 => ds.length + 1 = k ∧ F (.ref n :: ds) H2 = none) : Zdd cn m k F fo fa σ H = none := by
 obtain ⟨d, H1, e, n, fs, rfl, g, l, ds, H2, e2, hl, e3⟩ := h
 unfold Zdd
 rw [e]; simp only [Zb]; rw [g]; simp only; rw [if_pos ⟨trivial, l⟩, e2]; simp only [Zb]; rw [if_pos hl]; exact e3
theorem x_if {b : XFs} (h : wT (t σ H) fun z H1 => z = true ∧ wH (b σ H1) P) : wH (xIf t b σ H) P := by
 obtain ⟨z, H1, e, rfl, H2, e2, q⟩ := h
 exact ⟨H2, by unfold xIf; rw [e]; exact e2, q⟩
theorem x_ifN {b : XFs} (h : wT (t σ H) fun z _ => z = false) : xIf t b σ H = none := by
 obtain ⟨z, H1, e, rfl⟩ := h
 unfold xIf
 rw [e]; rfl
theorem Zka {f : EF} (h : wE (f σ H) fun _ H1 => P H1) : wH (Zfr f σ H) P := by
 obtain ⟨d, H1, e, q⟩ := h
 exact ⟨H1, by unfold Zfr; rw [e]; rfl, q⟩
theorem x_seq {f : SF} {b : XFs} (h : wS (f σ H) (Ztr (fun σ1 H1 => wH (b σ1 H1) P) fun _ _ _ => False)) : wH (Zyd f b σ H) P := by
 obtain ⟨x, d, H1, e, h⟩ := h
 unfold Zyd
 rw [e]
 cases x with
 | nx => exact h
 | bk => exact h.elim
 | ct => exact h.elim
 | rt d => exact h.elim
theorem Zmw {b : XFs} (hl : ds.length = n) (h : wH (b (ds.map some ++ List.replicate (N - ds.length) none) H) P) : wH (Zl6 n N b ds H) P := by
 unfold Zl6
 rw [if_pos hl]; exact h
noncomputable def wXT (r : Option (Str × HD)) (Q : Str -> HD -> Prop) : Prop := ∃ c H, r = some (c, H) ∧ Q c H
theorem Zrz {a b : XTs} (h : wT (t σ H) fun z H1 => br z (wXT (a σ H1) PX) (wXT (b σ H1) PX)) : wXT (Zya t a b σ H) PX := by
 obtain ⟨z, H1, e, h⟩ := h
 unfold Zya
 rw [e]
 cases z with
 | true => exact h.1 rfl
 | false => exact h.2 rfl
theorem Zj2 {F : XFF} (h : wE (fo σ H) fun d H1 => ∃ n fs, d = .ref n ∧ H1[n]? = some (.obj cn fs) ∧ fs.lookup m = none ∧ wA (fa σ H1) fun ds H2 => ds.length + 1 = k ∧ wH (F (.ref n :: ds) H2) (PX xn)) : wXT (Zib cn m k xn F fo fa σ H) PX := by
 obtain ⟨d, H1, e, n, fs, rfl, g, l, ds, H2, e2, hl, H3, e3, q⟩ := h
 exact ⟨xn, H3, by unfold Zib; rw [e]; simp only [Zb]; rw [g]; simp only; rw [if_pos ⟨trivial, l⟩, e2]; simp only [Zb]; rw [if_pos hl, e3]; rfl, q⟩
theorem Zsi {iE : Nat} {b su : SF} {x : XTs} (h0 : b σ H = none) (hl : iE < σ.length) (h : wXT (x σ H) fun cn H2 => wS (su (σ.set iE (some (.ref H2.length))) (H2 ++ [.exc cn])) (Ztr (fun σ3 H3 => R .nx (σ3.set iE none) H3) fun _ _ _ => False)) : wS (Zrk iE b x su σ H) R := by
 obtain ⟨c, H2, e, f, σ3, H3, e2, q⟩ := h
 cases f with
 | nx => exact ⟨.nx, _, _, by unfold Zrk; rw [h0]; simp only; rw [e]; simp only [Zb]; rw [if_pos hl, e2]; rfl, q⟩
 | bk => exact q.elim
 | ct => exact q.elim
 | rt d => exact q.elim
theorem Zfk {tb : List (Str × Bool)} (h : wE (fo σ H) fun d H1 => ∃ n c b, d = .ref n ∧ H1[n]? = some (.exc c) ∧ tb.lookup c = some b ∧ Q (.bl b) H1) : wE (Zl3 tb fo σ H) Q := by
 obtain ⟨d, H1, e, n, c, b, rfl, g, l, q⟩ := h
 exact ⟨_, _, by unfold Zl3; rw [e]; simp only [Zb]; rw [g]; simp only; rw [l]; rfl, q⟩
end
end WP
namespace K08
open PySem L2 DL LH
noncomputable def opn (bs : List Bool) (l : Int) : Bool := decide ((bs.length : Int) < Za5 l)
noncomputable def rig (bs : List Bool) (l : Int) : Bool := match bs[(Za5 l - 1).toNat]? with
 | some b => b == decide (0 < l)
 | none => false
noncomputable def kept (bs : List Bool) (ls : List Int) : Bool := ls.any (rig bs)
noncomputable def Zck (bs : List Bool) (ls : List Int) : List Int := ls.filter (opn bs)
noncomputable def Zex (b : Int) : List Int -> List Int
 | [] => []
 | l :: r => if Za5 l = b + 1 then r else l :: r
noncomputable def Zl4 (b : Int) (t : Bool) : List Int -> Bool
 | [] => false
 | l :: _ => decide (Za5 l = b + 1) && (t == decide (0 < l))
theorem Zfb {m : Int} (bs : List Bool) : ∀ (ls : List Int) (last : Int), Up m last ls -> (bs.length : Int) ≤ last -> Zck bs ls = ls ∧ kept bs ls = false
 | [], _, _, _ => ⟨rfl, rfl⟩
 | l :: r, last, u, h => by
  obtain ⟨h1, h2, h3⟩ := u
  obtain ⟨a, b⟩ := Zfb bs r (Za5 l) h3 (by omega)
  have o : opn bs l = true := decide_eq_true (by omega)
  have g : rig bs l = false := by
   unfold rig
   rw [List.getElem?_eq_none (by omega)]
  refine ⟨?_, ?_⟩
  ·unfold Zck; rw [List.filter_cons_of_pos o]; exact congrArg _ a
  ·unfold kept; rw [List.any_cons, g]; exact b
theorem Zwk {bs : List Bool} {t : Bool} {l : Int} (h : Za5 l ≤ bs.length) (h0 : 0 < Za5 l) : rig (bs ++ [t]) l = rig bs l := by
 unfold rig
 rw [List.getElem?_append_left (by omega)]
theorem Zgl {m : Int} (bs : List Bool) (t : Bool) : ∀ (ls : List Int) (last : Int), 0 ≤ last -> Up m last ls -> Zck (bs ++ [t]) ls = Zex bs.length (Zck bs ls) ∧ kept (bs ++ [t]) ls = (kept bs ls || Zl4 bs.length t (Zck bs ls))
 | [], _, _, _ => ⟨rfl, rfl⟩
 | l :: r, last, h0, u => by
  obtain ⟨h1, h2, h3⟩ := u
  have la : (((bs ++ [t]).length : Nat) : Int) = bs.length + 1 := by simp
  by_cases c1 : Za5 l ≤ bs.length
  ·obtain ⟨a, b⟩ := Zgl bs t r (Za5 l) (by omega) h3
   have o1 : opn bs l = false := decide_eq_false (by omega)
   have o2 : opn (bs ++ [t]) l = false := decide_eq_false (by rw [la]; omega)
   have e : Zck bs (l :: r) = Zck bs r := by unfold Zck; rw [List.filter_cons_of_neg (by rw [o1]; simp)]
   have e' : Zck (bs ++ [t]) (l :: r) = Zck (bs ++ [t]) r := by unfold Zck; rw [List.filter_cons_of_neg (by rw [o2]; simp)]
   rw [e, e']
   refine ⟨a, ?_⟩
   have k : ∀ cs, kept cs (l :: r) = (rig cs l || kept cs r) := fun cs => by unfold kept; rw [List.any_cons]
   rw [k, k, Zwk c1 (by omega), b, Bool.or_assoc]
  ·have o1 : opn bs l = true := decide_eq_true (by omega)
   obtain ⟨a1, a2⟩ := Zfb bs r (Za5 l) h3 (by omega)
   have e : Zck bs (l :: r) = l :: r := by unfold Zck; rw [List.filter_cons_of_pos o1]; exact congrArg _ a1
   have g1 : rig bs l = false := by unfold rig; rw [List.getElem?_eq_none (by omega)]
   have k : ∀ cs, kept cs (l :: r) = (rig cs l || kept cs r) := fun cs => by unfold kept; rw [List.any_cons]
   by_cases c2 : Za5 l = bs.length + 1
   ·obtain ⟨b1, b2⟩ := Zfb (bs ++ [t]) r (Za5 l) h3 (by rw [la]; omega)
    have o2 : opn (bs ++ [t]) l = false := decide_eq_false (by rw [la]; omega)
    have e' : Zck (bs ++ [t]) (l :: r) = r := by unfold Zck; rw [List.filter_cons_of_neg (by rw [o2]; simp)]; exact b1
    have g2 : rig (bs ++ [t]) l = (t == decide (0 < l)) := by
     unfold rig
     have : (Za5 l - 1).toNat = bs.length := by omega
     rw [this]; simp
    rw [e, e', k, k, g1, g2, a2, b2]
    refine ⟨by simp [Zex, c2], by simp [Zl4, c2]⟩
   ·obtain ⟨b1, b2⟩ := Zfb (bs ++ [t]) (l :: r) (Za5 l - 1) ⟨by omega, h2, h3⟩ (by rw [la]; omega)
    rw [e, b1, k bs, g1, a2, b2]
    refine ⟨by simp [Zex, c2], by simp [Zl4, c2]⟩
theorem Znw : ∀ ls : List Int, Zj4 (ls.map .int) = some ls
 | [] => rfl
 | l :: r => by simp [Zj4, nkOf, Znw r]
theorem Zf2 (ls : List Int) : nk (Zan ls) = some ls := Znw ls
theorem Zsz {kvs : List (D × D)} {kd vd : D} {k k' : List Int} (h : nk kd = some k) (h0 : Za3 kvs k = none) : (Za3 (Zi6 kvs kd k vd) k').isSome = ((Za3 kvs k').isSome || decide (k' = k)) := by
 have e : Zi6 kvs kd k vd = kvs ++ [(kd, vd)] := by unfold Zi6; rw [h0]; rfl
 rw [e]
 unfold Za3
 rw [List.find?_append]
 cases q : kvs.find? (fun p => nk p.1 == some k') with
 | some p => simp
 | none =>
  by_cases c : k' = k
  ·subst c; simp [h]
  ·have : (nk kd == some k') = false := by rw [h]; simp; exact fun z => c z.symm
   simp [List.find?_cons, this, c]
structure DR (rss : List (List Int)) (bs : List Bool) (kvs : List (D × D)) : Prop where
 key : ∀ p ∈ kvs, ∃ ls ∈ rss, kept bs ls = false ∧ p.1 = Zan (Zck bs ls)
 all : ∀ ls ∈ rss, kept bs ls = false -> (Za3 kvs (Zck bs ls)).isSome = true
 len : kvs.length ≤ rss.length
 val : ∀ p ∈ kvs, ∃ (i : Nat) (ls : List Int), rss[i]? = some ls ∧ kept bs ls = false ∧ p = (Zan (Zck bs ls), .int i)
structure Fz (H H' : HD) : Prop where
 old : ∀ (m : Nat) (o : DO), H[m]? = some o -> H'[m]? = some o ∨ ∃ kvs, o = .dic kvs false ∧ H'[m]? = some (.dic kvs true)
 len : H.length ≤ H'.length
theorem Fz.refl {H : HD} : Fz H H := ⟨fun _ _ h => .inl h, Nat.le_refl _⟩
theorem Fz.trans {H H1 H2 : HD} (a : Fz H H1) (b : Fz H1 H2) : Fz H H2 := by
 refine ⟨fun m o h => ?_, Nat.le_trans a.len b.len⟩
 rcases a.old m o h with h1 | ⟨kvs, rfl, h1⟩
 ·exact b.old m o h1
 ·rcases b.old m _ h1 with h2 | ⟨k2, e, _⟩
  ·exact .inr ⟨kvs, rfl, h2⟩
  ·cases e
theorem Fz.app {H : HD} (L : HD) : Fz H (H ++ L) := ⟨fun m o q => .inl (by
 have : m < H.length := (List.getElem?_eq_some_iff.mp q).1
 rw [List.getElem?_append_left this]; exact q), by simp⟩
theorem Fz.dic {H H' : HD} (x : Fz H H') {m : Nat} {kvs : List (D × D)} {fz : Bool} (h : H[m]? = some (.dic kvs fz)) : ∃ fz', H'[m]? = some (.dic kvs fz') := by
 rcases x.old m _ h with h1 | ⟨k2, e, h1⟩
 ·exact ⟨fz, h1⟩
 ·cases e; exact ⟨true, h1⟩
theorem dm {g : D -> List D -> HD -> Option (D × HD)} {fo : EF} {f : AF} {σ : SD} {H H1 H2 : HD} {o : D} {ds : List D} {r : Option (D × HD)} (h1 : fo σ H = some (o, H1)) (hd : Zml o H1 = true) (h2 : f σ H1 = some (ds, H2)) (h3 : g o ds H2 = r) : eDM g fo f σ H = r := by
 unfold eDM; rw [h1]; simp only [Zb]; rw [if_pos hd, h2]; exact h3
theorem ex {f : EF} {σ : SD} {H H1 : HD} {d : D} (h : f σ H = some (d, H1)) : Zcy f σ H = some (.nx, σ, H1) := by unfold Zcy; rw [h]; rfl
noncomputable def Zgt (acc : List (D × D)) (k : List Int) (v : D) : List (D × D) := if (Za3 acc k).isSome = true then acc else acc ++ [(Zan k, v)]
theorem Zmy {q : Nat} {acc : List (D × D)} {k : List Int} {v : D} {H : HD} (h : H[q]? = some (.dic acc false)) (hl : acc.length ≤ 100000) : ∃ z, Zio (.ref q) [Zan k, v] H = some (z, H.set q (.dic (Zgt acc k v) false)) := by
 have sz : acc.length < sizeLine := by rw [PySem.sizeLine_eq]; omega
 unfold Zio
 simp only [h, Zf2, Zb, if_pos sz]
 cases e : Za3 acc k with
 | some z =>
  refine ⟨z, ?_⟩
  have : Zgt acc k v = acc := by unfold Zgt; rw [e]; rfl
  rw [this]
  obtain ⟨h1, h2⟩ := List.getElem?_eq_some_iff.mp h
  rw [← h2, List.set_getElem_self h1]
 | none =>
  refine ⟨v, ?_⟩
  have e1 : Zi6 acc (Zan k) k v = acc ++ [(Zan k, v)] := by unfold Zi6; rw [e]; rfl
  have e2 : Zgt acc k v = acc ++ [(Zan k, v)] := by unfold Zgt; rw [e]; rfl
  rw [e1, e2]
theorem Zg4 {acc : List (D × D)} {k k' : List Int} {v : D} : (Za3 (Zgt acc k v) k').isSome = ((Za3 acc k').isSome || decide (k' = k)) := by
 unfold Zgt
 cases e : Za3 acc k with
 | some z =>
  rw [if_pos (by simp)]
  by_cases c : k' = k
  ·subst c; rw [e]; rfl
  ·simp [c]
 | none =>
  have := Zsz (kvs := acc) (kd := Zan k) (vd := v) (k := k) (k' := k') (Zf2 k) e
  have e1 : Zi6 acc (Zan k) k v = acc ++ [(Zan k, v)] := by unfold Zi6; rw [e]; rfl
  rw [e1] at this
  rw [if_neg (by simp)]; exact this
theorem Zp0 (acc : List (D × D)) (k : List Int) (v : D) : (Zgt acc k v).length ≤ acc.length + 1 := by unfold Zgt; split <;> simp
theorem Zqq {acc : List (D × D)} {k : List Int} {v : D} {p : D × D} (h : p ∈ Zgt acc k v) : p ∈ acc ∨ p.1 = Zan k := by
 unfold Zgt at h
 split at h
 ·exact .inl h
 ·rcases List.mem_append.mp h with h | h
  ·exact .inl h
  ·simp at h; subst h; exact .inr rfl
theorem Zm4 {acc : List (D × D)} {k : List Int} {v : D} {p : D × D} (h : p ∈ Zgt acc k v) : p ∈ acc ∨ p = (Zan k, v) := by
 unfold Zgt at h
 split at h
 ·exact .inl h
 ·rcases List.mem_append.mp h with h | h
  ·exact .inl h
  ·simp at h; subst h; exact .inr rfl
noncomputable abbrev fb : SF := (Zaf (Zcy (eDM Zio (Zac 1) (Zaa (Zac 3) (Zaa (Zac 2) Zae)))) Zah)
theorem Zit {q : Nat} {r : D} : ∀ (rss : List (List Int)) (c : Int) (acc : List (D × D)) (H : HD) (z2 z3 : Option D), H[q]? = some (.dic acc false) -> acc.length + rss.length ≤ 100000 →
  ∃ (acc' : List (D × D)) (z2' z3' : Option D), Zgh [] (gTp 2 (gCn (gNm 2) (gCn (gNm 3) gNl))) fb (Zey c (rss.map Zan)) [some r, some (.ref q), z2, z3] H = some (.nx, [some r, some (.ref q), z2', z3'], H.set q (.dic acc' false)) ∧
   (∀ p ∈ acc', p ∈ acc ∨ ∃ ls ∈ rss, p.1 = Zan ls) ∧ (∀ k, (Za3 acc k).isSome = true -> (Za3 acc' k).isSome = true) ∧ (∀ ls ∈ rss, (Za3 acc' ls).isSome = true) ∧ acc'.length ≤ acc.length + rss.length ∧ (∀ p ∈ acc', p ∈ acc ∨ ∃ (i : Nat) (ls : List Int), rss[i]? = some ls ∧ p = (Zan ls, .int (c + i)))
 | [], c, acc, H, z2, z3, hq, _ => by
  obtain ⟨h1, h2⟩ := List.getElem?_eq_some_iff.mp hq
  refine ⟨acc, z2, z3, ?_, fun p hp => .inl hp, fun _ h => h, by simp, by simp, fun p hp => .inl hp⟩
  rw [List.map_nil, Zey, Zgh, if_pos Zgu, ← h2, List.set_getElem_self h1]
 | ls :: rss, c, acc, H, z2, z3, hq, hl => by
  rw [List.map_cons, Zey, Zgh, if_pos Zgu]
  simp only [gTp, List.length_cons, List.length_nil, gCn, gNm, gNl, List.set, Zb, if_true, Nat.zero_add, Nat.reduceAdd]
  obtain ⟨z, es⟩ := Zmy (k := ls) (v := .int c) hq (by omega)
  have lt := (List.getElem?_eq_some_iff.mp hq).1
  have st : fb [some r, some (.ref q), some (.int c), some (Zan ls)] H = some (.nx, [some r, some (.ref q), some (.int c), some (Zan ls)], H.set q (.dic (Zgt acc ls (.int c)) false)) :=
   (Zcm (ex (dm (vr rfl) (by simp [Zml, hq]) (ac (vr rfl) (ac (vr rfl) an)) es))).trans rfl
  rw [st]
  simp only [Zb]
  have al := Zp0 acc ls (.int c)
  obtain ⟨acc', z2', z3', e, a1, a2, a3, a4, a5⟩ := Zit (q := q) (r := r) rss (c + 1) (Zgt acc ls (.int c)) (H.set q (.dic (Zgt acc ls (.int c)) false)) (some (.int c)) (some (Zan ls)) (by rw [List.getElem?_set_self lt]) (by simp at hl ⊢; omega)
  refine ⟨acc', z2', z3', by rw [e, List.set_set], fun p hp => ?_, fun k hk => a2 k (by rw [Zg4, hk]; rfl), fun l hl' => ?_, by omega, fun p hp => ?_⟩
  ·rcases a1 p hp with h | ⟨l, h1, h2⟩
   ·rcases Zqq h with h | h
    ·exact .inl h
    ·exact .inr ⟨ls, by simp, h⟩
   ·exact .inr ⟨l, by simp [h1], h2⟩
  ·rcases List.mem_cons.mp hl' with rfl | hl'
   ·exact a2 _ (by rw [Zg4]; simp)
   ·exact a3 l hl'
  ·rcases a5 p hp with h | ⟨i, l, h1, h2⟩
   ·rcases Zm4 h with h | h
    ·exact .inl h
    ·exact .inr ⟨0, ls, rfl, by rw [h]; simp⟩
   ·exact .inr ⟨i + 1, l, by simpa using h1, by rw [h2]; simp; omega⟩
theorem Zt5 {rss : List (List Int)} {m : Int} (hu : ∀ ls ∈ rss, Up m 0 ls) (hl : rss.length ≤ 1000) (H : HD) :
  ∃ (kvs : List (D × D)) (H' : HD) (q : Nat), Zcx [.tup (rss.map Zan)] H = some (.ref q, H') ∧ H'[q]? = some (.dic kvs false) ∧ DR rss [] kvs ∧ Fz H H' := by
 have s1 : Zbu 1 eDN [some (.tup (rss.map Zan)), none, none, none] H = some (.nx, [some (.tup (rss.map Zan)), some (.ref H.length), none, none], H ++ [.dic [] false]) := rfl
 obtain ⟨kvs, z2, z3, e, a1, a2, a3, a4, a5⟩ := Zit (q := H.length) (r := .tup (rss.map Zan)) rss 0 [] (H ++ [.dic [] false]) none none (by simp) (by simp; omega)
 have e1 : Zev (Zs4 (Zaa (Zac 0) Zae)) (gTp 2 (gCn (gNm 2) (gCn (gNm 3) gNl))) fb [some (.tup (rss.map Zan)), some (.ref H.length), none, none] (H ++ [.dic [] false]) = some (.nx, [some (.tup (rss.map Zan)), some (.ref H.length), z2, z3], (H ++ [DO.dic [] false]).set H.length (DO.dic kvs false)) := by
  unfold Zev Zs4
  rw [ac (vr rfl) an]
  exact e
 have es : (H ++ [DO.dic [] false]).set H.length (.dic kvs false) = H ++ [.dic kvs false] := by simp
 rw [es] at e1
 refine ⟨kvs, H ++ [.dic kvs false], H.length, ?_, by simp, ⟨fun p hp => ?_, fun ls hls _ => ?_, by simpa using a4, fun p hp => ?_⟩, Fz.app _⟩
 ·show ((Zb1 [some (.tup (rss.map Zan)), none, none, none] H).bind _) = _
  unfold Zb1
  rw [Zcm s1, Zcm e1]
  rfl
 ·rcases a1 p hp with h | ⟨ls, h1, h2⟩
  ·simp at h
  ·obtain ⟨o1, o2⟩ := Zfb [] ls 0 (hu ls h1) (by simp)
   exact ⟨ls, h1, o2, by rw [o1]; exact h2⟩
 ·obtain ⟨o1, o2⟩ := Zfb [] ls 0 (hu ls hls) (by simp)
  rw [o1]; exact a3 ls hls
 ·rcases a5 p hp with h | ⟨i, ls, h1, h2⟩
  ·simp at h
  ·obtain ⟨o1, o2⟩ := Zfb [] ls 0 (hu ls (List.mem_of_getElem? h1)) (by simp)
   exact ⟨i, ls, h1, o2, by rw [o1, h2]; simp⟩
noncomputable def hd0 : List Int -> Int
 | [] => 0
 | l :: _ => l
theorem act {b : Int} {t : Bool} {ls : List Int} (hb : 0 ≤ b) :
  (hd0 ls = -(if t = true then b + 1 else -(b + 1)) -> Zl4 b t ls = false ∧ Zex b ls = ls.drop 1) ∧
  (hd0 ls ≠ -(if t = true then b + 1 else -(b + 1)) -> hd0 ls ≠ (if t = true then b + 1 else -(b + 1)) -> Zl4 b t ls = false ∧ Zex b ls = ls) ∧
  (hd0 ls ≠ -(if t = true then b + 1 else -(b + 1)) -> hd0 ls = (if t = true then b + 1 else -(b + 1)) -> Zl4 b t ls = true) := by
 cases ls with
 | nil =>
  refine ⟨fun h => ?_, fun _ _ => ⟨rfl, rfl⟩, fun _ h => ?_⟩
  ·simp only [hd0] at h; split at h <;> omega
  ·simp only [hd0] at h; split at h <;> omega
 | cons l r =>
  simp only [hd0, Zl4, Zex, List.drop_one, List.tail_cons]
  cases t with
  | true =>
   simp only [if_true]
   refine ⟨fun h => ?_, fun h1 h2 => ?_, fun h1 h2 => ?_⟩
   ·have e : Za5 l = b + 1 := by unfold Za5; split <;> omega
    have g : decide (0 < l) = false := decide_eq_false (by omega)
    rw [g, if_pos e]; simp
   ·have e : Za5 l ≠ b + 1 := by unfold Za5; split <;> omega
    rw [if_neg e, decide_eq_false e]; simp
   ·have e : Za5 l = b + 1 := by unfold Za5; split <;> omega
    have g : decide (0 < l) = true := decide_eq_true (by omega)
    rw [g, decide_eq_true e]; rfl
  | false =>
   simp only [Bool.false_eq_true, if_false]
   refine ⟨fun h => ?_, fun h1 h2 => ?_, fun h1 h2 => ?_⟩
   ·have e : Za5 l = b + 1 := by unfold Za5; split <;> omega
    have g : decide (0 < l) = true := decide_eq_true (by omega)
    rw [g, if_pos e]; simp
   ·have e : Za5 l ≠ b + 1 := by unfold Za5; split <;> omega
    rw [if_neg e, decide_eq_false e]; simp
   ·have e : Za5 l = b + 1 := by unfold Za5; split <;> omega
    have g : decide (0 < l) = false := decide_eq_false (by omega)
    rw [g, decide_eq_true e]; rfl
noncomputable abbrev bb : SF := (Zaf (Zbu 6 (eIf (Zeq (Zac 5)) (eOp ixD (Zac 5) (eC (.int 0))) (eC (.int 0))))
 (Zaf (sIf (tOf (eOp eqD (Zac 6) (eUn Zmq (Zac 3)))) (Zaf (Zcy (eDM Zio (Zac 4) (Zaa (eSl (Zac 5) (Zb4 (eC (.int 1))) Zcg) (Zaa (eOp Zf7 (Zac 0) (Zac 5)) Zae))))
 Zah) (Zaf (sIf (tOf (eOp neD (Zac 6) (Zac 3))) (Zaf (Zcy (eDM Zio (Zac 4) (Zaa (Zac 5) (Zaa (eOp Zf7 (Zac 0) (Zac 5)) Zae))))
 Zah) Zah)
 Zah))
 Zah))
theorem un {g : D -> HD -> Option (D × HD)} {f : EF} {σ : SD} {H H1 : HD} {d : D} {r : Option (D × HD)} (h1 : f σ H = some (d, H1)) (h2 : g d H1 = r) : eUn g f σ H = r := by
 unfold eUn; rw [h1]; exact h2
theorem bb_ok {p q : Nat} {kvs acc : List (D × D)} {b : Int} {t : Bool} {a1 a2 z6 : Option D} {ls : List Int} {H : HD} (hb : 0 ≤ b) (hp : H[p]? = some (.dic kvs true)) (hq : H[q]? = some (.dic acc false)) (hl : acc.length ≤ 100000) (hk : (Za3 kvs ls).isSome = true) :
  ∃ (v : D) (z6' : Option D), Za3 kvs ls = some v ∧ bb [some (.ref p), a1, a2, some (.int (if t = true then b + 1 else -(b + 1))), some (.ref q), some (Zan ls), z6] H = some (.nx, [some (.ref p), a1, a2, some (.int (if t = true then b + 1 else -(b + 1))), some (.ref q), some (Zan ls), z6'], H.set q (.dic (if Zl4 b t ls = true then acc else Zgt acc (Zex b ls) v) false)) := by
 let R : Int := if t = true then b + 1 else -(b + 1)
 obtain ⟨v, ev⟩ := Option.isSome_iff_exists.mp hk
 have self : H.set q (.dic acc false) = H := by
  obtain ⟨h1, h2⟩ := List.getElem?_eq_some_iff.mp hq
  rw [← h2, List.set_getElem_self h1]
 have s1 : Zbu 6 (eIf (Zeq (Zac 5)) (eOp ixD (Zac 5) (eC (.int 0))) (eC (.int 0))) [some (.ref p), a1, a2, some (.int R), some (.ref q), some (Zan ls), z6] H = some (.nx, [some (.ref p), a1, a2, some (.int R), some (.ref q), some (Zan ls), some (.int (hd0 ls))], H) := by
  refine Zkv (d := .int (hd0 ls)) ?_
  have tv : Zeq (Zac 5) [some (.ref p), a1, a2, some (.int R), some (.ref q), some (Zan ls), z6] H = some (!ls.isEmpty, H) := by
   unfold Zeq; rw [vr (d := Zan ls) rfl]; simp [Zan, Zq5]
  unfold eIf
  rw [tv]
  cases ls with
  | nil => rfl
  | cons l r =>
   have : atI ((l :: r).map D.int) 0 = some (.int l) := Zaz (j := 0) rfl
   show eOp ixD (Zac 5) (eC (.int 0)) [some (.ref p), a1, a2, some (.int R), some (.ref q), some (Zan (l :: r)), z6] H = some (.int l, H)
   exact op (vr rfl) rfl (ixT this)
 let σ : SD := [some (.ref p), a1, a2, some (.int R), some (.ref q), some (Zan ls), some (.int (hd0 ls))]
 have dg : eOp Zf7 (Zac 0) (Zac 5) σ H = some (v, H) := by
  refine op (vr rfl) (vr rfl) ?_
  simp [Zf7, Zs9, hp, Zf2, ev]
 have t1 : tOf (eOp eqD (Zac 6) (eUn Zmq (Zac 3))) σ H = some (hd0 ls == -R, H) := tof (op (vr rfl) (un (vr rfl) rfl) (Zsb _ _ _))
 have t2 : tOf (eOp neD (Zac 6) (Zac 3)) σ H = some (!(hd0 ls == R), H) := tof (op (vr rfl) (vr rfl) (Yag _ _ _))
 have id1 : Zml (.ref q) H = true := by simp [Zml, hq]
 obtain ⟨A1, A2, A3⟩ := act (b := b) (t := t) (ls := ls) hb
 refine ⟨v, some (.int (hd0 ls)), ev, ?_⟩
 show bb [some (.ref p), a1, a2, some (.int R), some (.ref q), some (Zan ls), z6] H = some (.nx, σ, _)
 unfold bb
 rw [Zcm s1]
 by_cases c1 : hd0 ls = -R
 ·obtain ⟨h1, h2⟩ := A1 c1
  have sd : slD (Zan ls) (some 1) none H = some (Zan (ls.drop 1), H) := by
   have := sllo (xs := ls.map D.int) (k := 1) (H := H)
   rw [← List.map_drop] at this
   exact this
  obtain ⟨z, es⟩ := Zmy (k := ls.drop 1) (v := v) hq hl
  rw [h1, if_neg (by simp), h2]
  refine (Zcm (σ1 := σ) (H1 := H.set q (.dic (Zgt acc (ls.drop 1) v) false)) ?_).trans rfl
  rw [Zld t1, if_pos (by simpa using c1)]
  exact (Zcm (ex (dm (vr rfl) id1 (ac (sl (vr rfl) (os rfl) on sd) (ac dg an)) es))).trans rfl
 ·by_cases c2 : hd0 ls = R
  ·rw [A3 c1 c2, if_pos rfl, self]
   refine (Zcm (σ1 := σ) (H1 := H) ?_).trans rfl
   rw [Zld t1, if_neg (by simpa using c1)]
   refine (Zcm (σ1 := σ) (H1 := H) ?_).trans rfl
   rw [Zld t2, if_neg (by simpa using c2)]
   rfl
  ·obtain ⟨h1, h2⟩ := A2 c1 c2
   obtain ⟨z, es⟩ := Zmy (k := ls) (v := v) hq hl
   rw [h1, if_neg (by simp), h2]
   refine (Zcm (σ1 := σ) (H1 := H.set q (.dic (Zgt acc ls v) false)) ?_).trans rfl
   rw [Zld t1, if_neg (by simpa using c1)]
   refine (Zcm (σ1 := σ) (H1 := H.set q (.dic (Zgt acc ls v) false)) ?_).trans rfl
   rw [Zld t2, if_pos (by simpa using c2)]
   exact (Zcm (ex (dm (vr rfl) id1 (ac (vr rfl) (ac dg an)) es))).trans rfl
theorem Zrg {p q : Nat} {kvs : List (D × D)} {b : Int} {t : Bool} {a1 a2 : Option D} (hb : 0 ≤ b) (hpq : p ≠ q) : ∀ (qs : List (List Int)) (acc : List (D × D)) (H : HD) (z5 z6 : Option D), H[p]? = some (.dic kvs true) -> H[q]? = some (.dic acc false) -> acc.length + qs.length ≤ 100000 -> (∀ ls ∈ qs, (Za3 kvs ls).isSome = true) →
  ∃ (acc' : List (D × D)) (z5' z6' : Option D), Zgh [(p, .dic kvs true)] (gNm 5) bb (qs.map Zan) [some (.ref p), a1, a2, some (.int (if t = true then b + 1 else -(b + 1))), some (.ref q), z5, z6] H = some (.nx, [some (.ref p), a1, a2, some (.int (if t = true then b + 1 else -(b + 1))), some (.ref q), z5', z6'], H.set q (.dic acc' false)) ∧
   (∀ x ∈ acc', x ∈ acc ∨ ∃ ls ∈ qs, Zl4 b t ls = false ∧ x.1 = Zan (Zex b ls)) ∧ (∀ k, (Za3 acc k).isSome = true -> (Za3 acc' k).isSome = true) ∧ (∀ ls ∈ qs, Zl4 b t ls = false -> (Za3 acc' (Zex b ls)).isSome = true) ∧ acc'.length ≤ acc.length + qs.length ∧ (∀ x ∈ acc', x ∈ acc ∨ ∃ ls ∈ qs, Zl4 b t ls = false ∧ x.1 = Zan (Zex b ls) ∧ Za3 kvs ls = some x.2)
 | [], acc, H, z5, z6, hp, hq, _, _ => by
  obtain ⟨h1, h2⟩ := List.getElem?_eq_some_iff.mp hq
  refine ⟨acc, z5, z6, ?_, fun p hp => .inl hp, fun _ h => h, by simp, by simp, fun p hp => .inl hp⟩
  rw [List.map_nil, Zgh, if_pos (by intro x hx; simp at hx; subst hx; exact hp), ← h2, List.set_getElem_self h1]
 | ls :: qs, acc, H, z5, z6, hp, hq, hl, hk => by
  have lt := (List.getElem?_eq_some_iff.mp hq).1
  rw [List.map_cons, Zgh, if_pos (by intro x hx; simp at hx; subst hx; exact hp)]
  simp only [gNm, List.set, Zb]
  obtain ⟨v, z6', ev, e1⟩ := bb_ok (t := t) (a1 := a1) (a2 := a2) (z6 := z6) (ls := ls) hb hp hq (by omega) (hk ls (by simp))
  rw [e1]
  simp only [Zb]
  let acc1 := if Zl4 b t ls = true then acc else Zgt acc (Zex b ls) v
  have al : acc1.length ≤ acc.length + 1 := by
   show (if Zl4 b t ls = true then acc else Zgt acc (Zex b ls) v).length ≤ _
   split
   ·omega
   ·exact Zp0 _ _ _
  obtain ⟨acc', z5', z6'', e, a1', a2', a3', a4', a5'⟩ := Zrg (p := p) (q := q) (kvs := kvs) (t := t) (a1 := a1) (a2 := a2) hb hpq qs acc1 (H.set q (.dic acc1 false)) (some (Zan ls)) z6' (by rw [List.getElem?_set_ne (Ne.symm hpq)]; exact hp) (by rw [List.getElem?_set_self lt]) (by simp at hl ⊢; omega) (fun l hl => hk l (by simp [hl]))
  have mono : ∀ k, (Za3 acc k).isSome = true -> (Za3 acc1 k).isSome = true := fun k hk => by
   show (Za3 (if Zl4 b t ls = true then acc else Zgt acc (Zex b ls) v) k).isSome = true
   split
   ·exact hk
   ·rw [Zg4, hk]; rfl
  have lenF : acc'.length ≤ acc.length + (ls :: qs).length := by
   have e8 : (ls :: qs).length = qs.length + 1 := rfl
   have e9 : acc'.length ≤ acc1.length + qs.length := a4'
   omega
  refine ⟨acc', z5', z6'', by rw [e, List.set_set], fun x hx => ?_, fun k hk => a2' k (mono k hk), fun l hl' hh => ?_, lenF, fun x hx => ?_⟩
  ·rcases a1' x hx with h | ⟨l, h1, h2⟩
   ·cases hc : Zl4 b t ls with
    | true =>
     have : acc1 = acc := if_pos hc
     rw [this] at h; exact .inl h
    | false =>
     have : acc1 = Zgt acc (Zex b ls) v := if_neg (by rw [hc]; simp)
     rw [this] at h
     rcases Zqq h with h | h
     ·exact .inl h
     ·exact .inr ⟨ls, by simp, hc, h⟩
   ·exact .inr ⟨l, by simp [h1], h2⟩
  ·rcases List.mem_cons.mp hl' with rfl | hl'
   ·refine a2' _ ?_
    have : acc1 = Zgt acc (Zex b l) v := if_neg (by rw [hh]; simp)
    rw [this, Zg4]; simp
   ·exact a3' l hl' hh
  ·rcases a5' x hx with h | ⟨l, h1, h2⟩
   ·cases hc : Zl4 b t ls with
    | true =>
     have : acc1 = acc := if_pos hc
     rw [this] at h; exact .inl h
    | false =>
     have : acc1 = Zgt acc (Zex b ls) v := if_neg (by rw [hc]; simp)
     rw [this] at h
     rcases Zm4 h with h | h
     ·exact .inl h
     ·exact .inr ⟨ls, by simp, hc, by rw [h], by rw [h]; exact ev⟩
   ·exact .inr ⟨l, by simp [h1], h2⟩
theorem Zlk {kvs : List (D × D)} {k : List Int} (h : (Za3 kvs k).isSome = true) : ∃ p ∈ kvs, nk p.1 = some k := by
 unfold Za3 at h
 rw [Option.isSome_map] at h
 obtain ⟨p, e⟩ := Option.isSome_iff_exists.mp h
 exact ⟨p, List.mem_of_find?_eq_some e, by have := List.find?_some e; simpa using this⟩
theorem Zri {kvs : List (D × D)} {k : List Int} {p : D × D} (hp : p ∈ kvs) (h : nk p.1 = some k) : (Za3 kvs k).isSome = true := by
 unfold Za3
 rw [Option.isSome_map, List.find?_isSome]
 exact ⟨p, hp, by simp [h]⟩
theorem Ztu {kvs : List (D × D)} {k : List Int} {v : D} (h : Za3 kvs k = some v) : ∃ p ∈ kvs, nk p.1 = some k ∧ p.2 = v := by
 unfold Za3 at h
 obtain ⟨p, e, rfl⟩ := Zm h
 exact ⟨p, List.mem_of_find?_eq_some e, by have := List.find?_some e; simpa using this, rfl⟩
theorem Zq1 {rss : List (List Int)} {bs : List Bool} : ∀ {kvs : List (D × D)}, (∀ p ∈ kvs, ∃ ls ∈ rss, kept bs ls = false ∧ p.1 = Zan (Zck bs ls)) -> ∃ qs : List (List Int), kvs.map (·.1) = qs.map Zan ∧ ∀ q ∈ qs, ∃ ls ∈ rss, kept bs ls = false ∧ q = Zck bs ls
 | [], _ => ⟨[], rfl, by simp⟩
 | p :: kvs, h => by
  obtain ⟨ls, h1, h2, h3⟩ := h p (by simp)
  obtain ⟨qs, e, g⟩ := Zq1 (kvs := kvs) fun x hx => h x (by simp [hx])
  refine ⟨Zck bs ls :: qs, by rw [List.map_cons, List.map_cons, e, h3], fun q hq => ?_⟩
  rcases List.mem_cons.mp hq with rfl | hq
  ·exact ⟨ls, h1, h2, rfl⟩
  ·exact g q hq
theorem Zrx {a b : List Int} (h : Zan a = Zan b) : a = b := by
 have := Zf2 a
 rw [h, Zf2] at this
 exact (Option.some.inj this).symm
theorem Zlw {rss : List (List Int)} {m : Int} {bs : List Bool} {t : Bool} {kvs : List (D × D)} {fz : Bool} {p : Nat} {H : HD} (hu : ∀ ls ∈ rss, Up m 0 ls) (hl : rss.length ≤ 1000) (hp : H[p]? = some (.dic kvs fz)) (dr : DR rss bs kvs) :
  ∃ (kvs' : List (D × D)) (H' : HD) (q : Nat), Zav [.ref p, .int ((bs.length : Int) + 1), .bl t] H = some (.ref q, H') ∧ H'[q]? = some (.dic kvs' false) ∧ DR rss (bs ++ [t]) kvs' ∧ Fz H H' := by
 obtain ⟨qs, eq, gq⟩ := Zq1 dr.key
 let b : Int := bs.length
 have hb : 0 ≤ b := by show (0 : Int) ≤ bs.length; omega
 let R : Int := if t = true then b + 1 else -(b + 1)
 have ltp := (List.getElem?_eq_some_iff.mp hp).1
 have s1 : Zbu 3 (eIf (Zeq (Zac 2)) (Zac 1) (eUn Zmq (Zac 1))) [some (.ref p), some (.int (b + 1)), some (.bl t), none, none, none, none] H = some (.nx, [some (.ref p), some (.int (b + 1)), some (.bl t), some (.int R), none, none, none], H) := by
  refine Zkv (d := .int R) ?_
  cases t <;> rfl
 have s2 : Zbu 4 eDN [some (.ref p), some (.int (b + 1)), some (.bl t), some (.int R), none, none, none] H = some (.nx, [some (.ref p), some (.int (b + 1)), some (.bl t), some (.int R), some (.ref H.length), none, none], H ++ [.dic [] false]) := rfl
 let H1 : HD := (H ++ [DO.dic [] false]).set p (DO.dic kvs true)
 have hp0 : (H ++ [DO.dic [] false])[p]? = some (.dic kvs fz) := by rw [List.getElem?_append_left ltp]; exact hp
 have hp1 : H1[p]? = some (.dic kvs true) := by rw [List.getElem?_set_self (by simp; omega)]
 have hq1 : H1[H.length]? = some (.dic [] false) := by rw [List.getElem?_set_ne (by omega)]; simp
 have lq : qs.length = kvs.length := by have := congrArg List.length eq; simpa using this.symm
 have kk : ∀ ls ∈ qs, (Za3 kvs ls).isSome = true := fun ls hls => by
  have : Zan ls ∈ kvs.map (·.1) := by rw [eq]; exact List.mem_map_of_mem hls
  obtain ⟨x, hx, ex⟩ := List.mem_map.mp this
  exact Zri hx (by rw [ex, Zf2])
 have dl := dr.len
 obtain ⟨acc, z5, z6, e, a1, a2, a3, a4, a5⟩ := Zrg (p := p) (q := H.length) (kvs := kvs) (b := b) (t := t) (a1 := some (.int (b + 1))) (a2 := some (.bl t)) hb (by omega) qs [] H1 none none hp1 hq1 (by simp; omega) kk
 have e1 : Zev (Zv2 (Zac 0)) (gNm 5) bb [some (.ref p), some (.int (b + 1)), some (.bl t), some (.int R), some (.ref H.length), none, none] (H ++ [.dic [] false]) = some (.nx, [some (.ref p), some (.int (b + 1)), some (.bl t), some (.int R), some (.ref H.length), z5, z6], H1.set H.length (.dic acc false)) := by
  unfold Zev Zv2
  rw [vr (d := .ref p) rfl]
  simp only [Zb, hp0]
  rw [eq]
  exact e
 have lt1 : H.length < H1.length := (List.getElem?_eq_some_iff.mp hq1).1
 refine ⟨acc, H1.set H.length (.dic acc false), H.length, ?_, by rw [List.getElem?_set_self lt1], ⟨fun x hx => ?_, fun ls hls hk => ?_, ?_, fun x hx => ?_⟩, ⟨fun mm o ho => ?_, by simp [H1]⟩⟩
 ·show ((Zcu [some (.ref p), some (.int (b + 1)), some (.bl t), none, none, none, none] H).bind _) = _
  unfold Zcu
  rw [Zcm s1, Zcm s2, Zcm e1]
  rfl
 ·rcases a1 x hx with h | ⟨q, h1, h2, h3⟩
  ·simp at h
  ·obtain ⟨ls, g1, g2, rfl⟩ := gq q h1
   obtain ⟨n1, n2⟩ := Zgl bs t ls 0 (Int.le_refl _) (hu ls g1)
   refine ⟨ls, g1, ?_, by rw [n1]; exact h3⟩
   rw [n2, g2]; exact h2
 ·obtain ⟨n1, n2⟩ := Zgl bs t ls 0 (Int.le_refl _) (hu ls hls)
  rw [n2, Bool.or_eq_false_iff] at hk
  obtain ⟨x, hx, ex⟩ := Zlk (dr.all ls hls hk.1)
  have hm : x.1 ∈ qs.map Zan := by rw [← eq]; exact List.mem_map_of_mem hx
  obtain ⟨q, hq, eqq⟩ := List.mem_map.mp hm
  have : q = Zck bs ls := by rw [← eqq, Zf2] at ex; exact Option.some.inj ex
  subst this
  rw [n1]
  exact a3 _ hq hk.2
 ·simp at a4; omega
 ·rcases a5 x hx with h | ⟨q, h1, h2, h3, h4⟩
  ·simp at h
  ·obtain ⟨y, y1, y2, y3⟩ := Ztu h4
   obtain ⟨i, ls, g1, g2, rfl⟩ := dr.val y y1
   have : q = Zck bs ls := by rw [Zf2] at y2; exact (Option.some.inj y2).symm
   subst this
   obtain ⟨n1, n2⟩ := Zgl bs t ls 0 (Int.le_refl _) (hu ls (List.mem_of_getElem? g1))
   exact ⟨i, ls, g1, by rw [n2, g2]; exact h2, Prod.ext (by rw [n1]; exact h3) y3.symm⟩
 ·have lm : mm < H.length := (List.getElem?_eq_some_iff.mp ho).1
  rw [List.getElem?_set_ne (by omega)]
  by_cases c : p = mm
  ·subst c
   rw [hp] at ho
   cases ho
   cases fz with
   | true => exact .inl hp1
   | false => exact .inr ⟨kvs, rfl, hp1⟩
  ·refine .inl ?_
   show ((H ++ [DO.dic [] false]).set p (.dic kvs true))[mm]? = some o
   rw [List.getElem?_set_ne c, List.getElem?_append_left lm]; exact ho
theorem Zlq {rss : List (List Int)} {m : Int} {r pl : D} (hu : ∀ ls ∈ rss, Up m 0 ls) (hl : rss.length ≤ 1000) : ∀ (ts bs : List Bool) (kvs : List (D × D)) (p : Nat) (fz : Bool) (H : HD) (z3 z4 : Option D), H[p]? = some (.dic kvs fz) -> DR rss bs kvs →
  ∃ (kvs' : List (D × D)) (H' : HD) (q : Nat) (fz' : Bool) (z3' z4' : Option D), Zgh [] (gTp 2 (gCn (gNm 3) (gCn (gNm 4) gNl))) (Zaf (Zbu 2 (Zai 3 Zav (Zaa (Zac 2) (Zaa (Zac 3) (Zaa (Zac 4) Zae))))) Zah) (Zey ((bs.length : Int) + 1) (ts.map .bl)) [some r, some pl, some (.ref p), z3, z4] H = some (.nx, [some r, some pl, some (.ref q), z3', z4'], H') ∧ H'[q]? = some (.dic kvs' fz') ∧ DR rss (bs ++ ts) kvs' ∧ Fz H H'
 | [], bs, kvs, p, fz, H, z3, z4, hp, dr => ⟨kvs, H, p, fz, z3, z4, by rw [List.map_nil, Zey, Zgh, if_pos Zgu], hp, by rw [List.append_nil]; exact dr, Fz.refl⟩
 | t :: ts, bs, kvs, p, fz, H, z3, z4, hp, dr => by
  rw [List.map_cons, Zey, Zgh, if_pos Zgu]
  simp only [gTp, List.length_cons, List.length_nil, gCn, gNm, gNl, List.set, Zb, if_true, Nat.zero_add, Nat.reduceAdd]
  obtain ⟨k1, H1, q1, e1, g1, d1, x1⟩ := Zlw (t := t) hu hl hp dr
  have st : (Zaf (Zbu 2 (Zai 3 Zav (Zaa (Zac 2) (Zaa (Zac 3) (Zaa (Zac 4) Zae))))) Zah) [some r, some pl, some (.ref p), some (.int ((bs.length : Int) + 1)), some (.bl t)] H = some (.nx, [some r, some pl, some (.ref q1), some (.int ((bs.length : Int) + 1)), some (.bl t)], H1) :=
   (Zcm (Zkv (ca (ac (vr rfl) (ac (vr rfl) (ac (vr rfl) an))) rfl e1))).trans rfl
  rw [st]
  simp only [Zb]
  obtain ⟨k2, H2, q2, fz2, z3', z4', e2, g2, d2, x2⟩ := Zlq (r := r) (pl := pl) hu hl ts (bs ++ [t]) k1 q1 false H1 (some (.int ((bs.length : Int) + 1))) (some (.bl t)) g1 d1
  have ec : (((bs ++ [t]).length : Nat) : Int) + 1 = (bs.length : Int) + 1 + 1 := by simp
  rw [ec] at e2
  refine ⟨k2, H2, q2, fz2, z3', z4', e2, g2, ?_, x1.trans x2⟩
  rw [List.append_assoc] at d2
  exact d2
theorem Zim {rss : List (List Int)} {m : Int} {bs : List Bool} (hu : ∀ ls ∈ rss, Up m 0 ls) (hl : rss.length ≤ 1000) (H : HD) :
  ∃ (kvs : List (D × D)) (H' : HD) (q : Nat) (fz : Bool), Zbq [.tup (rss.map Zan), .tup (bs.map .bl)] H = some (.ref q, H') ∧ H'[q]? = some (.dic kvs fz) ∧ DR rss bs kvs ∧ Fz H H' := by
 obtain ⟨k1, H1, q1, e1, g1, d1, x1⟩ := Zt5 hu hl H
 have s1 : Zbu 2 (Zai 1 Zcx (Zaa (Zac 0) Zae)) [some (.tup (rss.map Zan)), some (.tup (bs.map .bl)), none, none, none] H = some (.nx, [some (.tup (rss.map Zan)), some (.tup (bs.map .bl)), some (.ref q1), none, none], H1) := Zkv (ca (ac (vr rfl) an) rfl e1)
 obtain ⟨k2, H2, q2, fz2, z3', z4', e2, g2, d2, x2⟩ := Zlq (r := .tup (rss.map Zan)) (pl := .tup (bs.map .bl)) hu hl bs [] k1 q1 false H1 none none g1 d1
 have e3 : Zev (Znd (Zaa (Zac 1) Zae)) (gTp 2 (gCn (gNm 3) (gCn (gNm 4) gNl))) (Zaf (Zbu 2 (Zai 3 Zav (Zaa (Zac 2) (Zaa (Zac 3) (Zaa (Zac 4) Zae))))) Zah) [some (.tup (rss.map Zan)), some (.tup (bs.map .bl)), some (.ref q1), none, none] H1 = some (.nx, [some (.tup (rss.map Zan)), some (.tup (bs.map .bl)), some (.ref q2), z3', z4'], H2) := by
  unfold Zev Znd
  rw [ac (vr rfl) an]
  exact e2
 refine ⟨k2, H2, q2, fz2, ?_, g2, d2, x1.trans x2⟩
 show ((Za7 [some (.tup (rss.map Zan)), some (.tup (bs.map .bl)), none, none, none] H).bind _) = _
 unfold Za7
 rw [Zcm s1, Zcm e3]
 rfl
noncomputable def kS (d : D) : Bool := match d with
 | .str s => s == "some"
 | _ => false
noncomputable def Zbm (b : Bool) : D := if b then .str "some" else .str "all"
theorem Zh7 {d : D} (h : Zdl d) : d = Zbm (kS d) := by
 rcases h with rfl | rfl
 ·have : kS (.str "all") = false := by decide
  rw [this]; rfl
 ·have : kS (.str "some") = true := by decide
  rw [this]; rfl
noncomputable def W (ks : List D) (rss : List (List Int)) : Nat -> List Bool -> Bool
 | 0, bs => rss.all (kept bs)
 | j + 1, bs =>
  let who := kS (ks.getD bs.length .non)
  if W ks rss j (bs ++ [false]) == who || W ks rss j (bs ++ [true]) == who then who else !who
theorem Zk7 {bs : List Bool} {t : Bool} {ls : List Int} {m : Int} (hu : Up m 0 ls) (h : kept bs ls = true) : kept (bs ++ [t]) ls = true := by
 rw [(Zgl bs t ls 0 (Int.le_refl _) hu).2, h]; rfl
theorem Zp1 {ks : List D} {rss : List (List Int)} {m : Int} (hu : ∀ ls ∈ rss, Up m 0 ls) : ∀ (j : Nat) (bs : List Bool), (∀ ls ∈ rss, kept bs ls = true) -> W ks rss j bs = true
 | 0, bs, h => by unfold W; rw [List.all_eq_true]; exact h
 | j + 1, bs, h => by
  have a := Zp1 (ks := ks) hu j (bs ++ [false]) fun ls hl => Zk7 (hu ls hl) (h ls hl)
  have b := Zp1 (ks := ks) hu j (bs ++ [true]) fun ls hl => Zk7 (hu ls hl) (h ls hl)
  unfold W
  rw [a, b]
  cases kS (ks.getD bs.length .non) <;> rfl
theorem Zll {bs : List Bool} {t : Bool} {ls : List Int} {m : Int} (hu : Up m 0 ls) (h : kept bs ls = false ∧ Zck bs ls = []) : kept (bs ++ [t]) ls = false ∧ Zck (bs ++ [t]) ls = [] := by
 obtain ⟨n1, n2⟩ := Zgl bs t ls 0 (Int.le_refl _) hu
 rw [n1, n2, h.1, h.2]; exact ⟨rfl, rfl⟩
theorem Zv4 {ks : List D} {rss : List (List Int)} {m : Int} {ls : List Int} (hl : ls ∈ rss) (hu : Up m 0 ls) : ∀ (j : Nat) (bs : List Bool), kept bs ls = false ∧ Zck bs ls = [] -> W ks rss j bs = false
 | 0, bs, h => by
  unfold W
  cases e : rss.all (kept bs) with
  | false => rfl
  | true => rw [List.all_eq_true.mp e ls hl] at h; cases h.1
 | j + 1, bs, h => by
  have a := Zv4 (ks := ks) hl hu j (bs ++ [false]) (Zll hu h)
  have b := Zv4 (ks := ks) hl hu j (bs ++ [true]) (Zll hu h)
  unfold W
  rw [a, b]
  cases kS (ks.getD bs.length .non) <;> rfl
theorem Zu5 {m : Int} (bs : List Bool) (h : m ≤ bs.length) : ∀ (ls : List Int) (last : Int), Up m last ls -> Zck bs ls = []
 | [], _, _ => rfl
 | l :: r, last, u => by
  have o : opn bs l = false := decide_eq_false (by have := u.2.1; omega)
  unfold Zck
  rw [List.filter_cons_of_neg (by rw [o]; simp)]
  exact Zu5 bs h r (Za5 l) u.2.2
theorem Zt7 (b : Bool) (H : HD) : Zci [Zbm b] H = some (Zbm (!b), H) := by
 cases b
 ·have : ((("all" : Str)) == ("some" : Str)) = false := by decide
  simp [Zci, Zc5, Zbp, Zbm, Zaf, Zbh, eIf, tOf, eOp, eqD, Zof, Zac, eC, blD, this]
 ·simp [Zci, Zc5, Zbp, Zbm, Zaf, Zbh, eIf, tOf, eOp, eqD, Zof, Zac, eC, blD]
theorem Zpt (a b : Bool) (H : HD) : eqD (Zbm a) (Zbm b) H = some (.bl (a == b), H) := by
 have e1 : ((("all" : Str)) == ("some" : Str)) = false := by decide
 have e2 : ((("some" : Str)) == ("all" : Str)) = false := by decide
 cases a <;> cases b <;> simp [eqD, Zof, Zbm, e1, e2]
noncomputable def Zba (bs : List Bool) : D := .tup (bs.map .bl)
noncomputable abbrev wb (F : FF) : SF := (Zaf (sIf (tOf (eOp eqD (Zai 3 F (Zaa (Zac 0) (Zaa (Zai 3 Zav (Zaa (Zac 1) (Zaa (eOp Zbn (Zac 2) (eC (.int 1))) (Zaa (Zac 4) Zae)))) (Zaa (eOp Zbn (Zac 2) (eC (.int 1))) Zae)))) (Zac 3))) (Zaf (Zbh (Zac 3))
 Zah) Zah)
 Zah)
theorem Zpk {ks : List D} {rss : List (List Int)} (hk : ∀ d ∈ ks, Zdl d) (hu : ∀ ls ∈ rss, Up ks.length 0 ls) (hl : rss.length ≤ 1000) : ∀ (j f : Nat) (bs : List Bool) (kvs : List (D × D)) (p : Nat) (fz : Bool) (H : HD), j < f -> bs.length + j = ks.length -> H[p]? = some (.dic kvs fz) -> DR rss bs kvs →
  ∃ H', Zxl 3 5 Zao f [.tup ks, .ref p, .int bs.length] H = some (Zbm (W ks rss j bs), H') ∧ Fz H H'
 | j, 0, bs, kvs, p, fz, H, hf, _, _, _ => by omega
 | j, f + 1, bs, kvs, p, fz, H, hf, hj, hp, dr => by
  show ∃ H', ((Zao (Zxl 3 5 Zao f) [some (.tup ks), some (.ref p), some (.int bs.length), none, none] H).bind _) = _ ∧ _
  generalize hF : Zxl 3 5 Zao f = F
  let σ0 : SD := [some (.tup ks), some (.ref p), some (.int bs.length), none, none]
  have t1 : tOf (eOp dinD (Zdg Zae) (Zac 1)) σ0 H = some ((Za3 kvs []).isSome, H) := by
   refine tof (op (tp (ds := []) an (by simp)) (vr rfl) ?_)
   simp [dinD, Zs9, hp, nk, Zj4]
  have t2 : tOf (eOp eqD (eCB Zoi (Zaa (Zac 1) Zae)) (eC (.int 0))) σ0 H = some ((kvs.length : Int) == 0, H) := by
   refine tof (op (cb (ac (vr rfl) an) (r := some (.int kvs.length, H)) ?_) rfl (Zsb _ _ _))
   simp [Zoi, Zs9, hp]
  cases c1 : (Za3 kvs []).isSome with
  | true =>
   rw [c1] at t1
   obtain ⟨x, hx, ex⟩ := Zlk c1
   obtain ⟨ls, g1, g2, g3⟩ := dr.key x hx
   have r0 : Zck bs ls = [] := by rw [g3, Zf2] at ex; exact Option.some.inj ex
   refine ⟨H, ?_, Fz.refl⟩
   unfold Zao
   rw [hit (σ1 := σ0) t1 (rt rfl), Zv4 g1 (hu ls g1) j bs ⟨g2, r0⟩]
   rfl
  | false =>
   rw [c1] at t1
   by_cases c2 : kvs = []
   ·subst c2
    have al : ∀ ls ∈ rss, kept bs ls = true := fun ls h => by
     cases e : kept bs ls with
     | true => rfl
     | false => have := dr.all ls h e; simp [Za3] at this
    refine ⟨H, ?_, Fz.refl⟩
    unfold Zao
    rw [skip t1, hit (σ1 := σ0) t2 (rt rfl), Zp1 hu j bs al]
    rfl
   ·have t2' : tOf (eOp eqD (eCB Zoi (Zaa (Zac 1) Zae)) (eC (.int 0))) σ0 H = some (false, H) := by
     rw [t2]
     have : ((kvs.length : Int) == 0) = false := by
      have := List.length_pos_iff.mpr c2
      simp; exact c2
     rw [this]
    -- a name is left
    match j, hj, hf with
    | 0, hj, hf =>
     exfalso
     obtain ⟨x, kr, e⟩ := List.exists_cons_of_ne_nil c2
     obtain ⟨ls, g1, g2, g3⟩ := dr.key x (by rw [e]; simp)
     have r0 := Zu5 bs (m := ks.length) (by omega) ls 0 (hu ls g1)
     have := dr.all ls g1 g2
     rw [r0, c1] at this; cases this
    | j + 1, hj, hf =>
     have lt : bs.length < ks.length := by omega
     let who : Bool := kS (ks.getD bs.length .non)
     have gw : ks[bs.length]? = some (Zbm who) := by
      have e0 : ks.getD bs.length .non = ks[bs.length] := by simp [List.getD, lt]
      have := Zh7 (hk ks[bs.length] (List.getElem_mem lt))
      rw [List.getElem?_eq_getElem lt, this]
      show some (Zbm (kS ks[bs.length])) = some (Zbm (kS (ks.getD bs.length .non)))
      rw [e0]
     have s3 : Zbu 3 (eOp ixD (Zac 0) (Zac 2)) σ0 H = some (.nx, [some (.tup ks), some (.ref p), some (.int bs.length), some (Zbm who), none], H) := Zkv (op (vr rfl) (vr rfl) (ixT (Zaz gw)))
     -- one pick
     have one : ∀ (t : Bool) (z4 : Option D) (H0 : HD) (fz0 : Bool), H0[p]? = some (.dic kvs fz0) -> ∃ H1, tOf (eOp eqD (Zai 3 F (Zaa (Zac 0) (Zaa (Zai 3 Zav (Zaa (Zac 1) (Zaa (eOp Zbn (Zac 2) (eC (.int 1))) (Zaa (Zac 4) Zae)))) (Zaa (eOp Zbn (Zac 2) (eC (.int 1))) Zae)))) (Zac 3)) [some (.tup ks), some (.ref p), some (.int bs.length), some (Zbm who), some (.bl t)] H0 = some (W ks rss j (bs ++ [t]) == who, H1) ∧ Fz H0 H1 := by
      intro t z4 H0 fz0 h0
      obtain ⟨k1, H1, q1, e1, g1, d1, x1⟩ := Zlw (t := t) hu hl h0 dr
      obtain ⟨H2, e2, x2⟩ := Zpk hk hu hl j f (bs ++ [t]) k1 q1 false H1 (by omega) (by simp; omega) g1 d1
      have el : (((bs ++ [t]).length : Nat) : Int) = (bs.length : Int) + 1 := by simp
      rw [el, hF] at e2
      refine ⟨H2, tof (op (ca (ac (vr rfl) (ac (ca (ac (vr rfl) (ac (op (vr rfl) rfl (adI _ _ _)) (ac (vr rfl) an))) rfl e1) (ac (op (vr rfl) rfl (adI _ _ _)) an))) rfl e2) (vr rfl) (Zpt _ _ _)), x1.trans x2⟩
     obtain ⟨H1, o1, x1⟩ := one false none H fz hp
     obtain ⟨fz1, h1⟩ := x1.dic hp
     obtain ⟨H2, o2, x2⟩ := one true none H1 fz1 h1
     have Wd : W ks rss (j + 1) bs = (if W ks rss j (bs ++ [false]) == who || W ks rss j (bs ++ [true]) == who then who else !who) := by
      conv => lhs; unfold W
     have it : ∀ Hx, iSq (eC k_TRUTHS) [some (.tup ks), some (.ref p), some (.int bs.length), some (Zbm who), none] Hx = some (([.bl false, .bl true], []), Hx) := fun _ => rfl
     have st : ∀ (t b : Bool) (Ha Hb : HD), tOf (eOp eqD (Zai 3 F (Zaa (Zac 0) (Zaa (Zai 3 Zav (Zaa (Zac 1) (Zaa (eOp Zbn (Zac 2) (eC (.int 1))) (Zaa (Zac 4) Zae)))) (Zaa (eOp Zbn (Zac 2) (eC (.int 1))) Zae)))) (Zac 3)) [some (.tup ks), some (.ref p), some (.int bs.length), some (Zbm who), some (.bl t)] Ha = some (b, Hb) →
       wb F [some (.tup ks), some (.ref p), some (.int bs.length), some (Zbm who), some (.bl t)] Ha = some (if b = true then .rt (Zbm who) else .nx, [some (.tup ks), some (.ref p), some (.int bs.length), some (Zbm who), some (.bl t)], Hb) := by
      intro t b Ha Hb h
      cases b with
      | true => exact hit h (rt (vr rfl))
      | false => exact (skip h).trans rfl
     unfold Zao
     rw [skip t1, skip t2', Zcm s3]
     cases w1 : (W ks rss j (bs ++ [false]) == who) with
     | true =>
      rw [w1] at o1
      refine ⟨H1, ?_, x1⟩
      have lp : Zev (iSq (eC k_TRUTHS)) (gNm 4) (wb F) [some (.tup ks), some (.ref p), some (.int bs.length), some (Zbm who), none] H = some (.rt (Zbm who), [some (.tup ks), some (.ref p), some (.int bs.length), some (Zbm who), some (.bl false)], H1) := by
       unfold Zev
       rw [it]
       simp only [Zb]
       rw [Zgh, if_pos Zgu]
       simp only [gNm, List.set, Zb]
       rw [st _ _ _ _ o1]
       rfl
      rw [Zja lp, Wd, w1]
      rfl
     | false =>
      rw [w1] at o1
      have lp : Zev (iSq (eC k_TRUTHS)) (gNm 4) (wb F) [some (.tup ks), some (.ref p), some (.int bs.length), some (Zbm who), none] H = some (if (W ks rss j (bs ++ [true]) == who) = true then .rt (Zbm who) else .nx, [some (.tup ks), some (.ref p), some (.int bs.length), some (Zbm who), some (.bl true)], H2) := by
       unfold Zev
       rw [it]
       simp only [Zb]
       rw [Zgh, if_pos Zgu]
       simp only [gNm, List.set, Zb]
       rw [st _ _ _ _ o1]
       simp only [Zb, Bool.false_eq_true, if_false]
       rw [Zgh, if_pos Zgu]
       simp only [gNm, List.set, Zb]
       rw [st _ _ _ _ o2]
       cases (W ks rss j (bs ++ [true]) == who) with
       | true => rfl
       | false =>
        simp only [Zb, Bool.false_eq_true, if_false]
        rw [Zgh, if_pos Zgu]
      refine ⟨H2, ?_, x1.trans x2⟩
      cases w2 : (W ks rss j (bs ++ [true]) == who) with
      | true =>
       rw [w2, if_pos rfl] at lp
       rw [Zja lp, Wd, w1, w2]
       rfl
      | false =>
       rw [w2, if_neg (by simp)] at lp
       have eo : Zai 1 Zci (Zaa (Zac 3) Zae) [some (.tup ks), some (.ref p), some (.int bs.length), some (Zbm who), some (.bl true)] H2 = some (Zbm (!who), H2) := ca (ac (vr rfl) an) rfl (Zt7 who H2)
       rw [Zcm lp, Zja (rt eo), Wd, w1, w2]
       rfl
theorem Zqt {ks : List D} {rss : List (List Int)} {bs : List Bool} {j : Nat} (hk : ∀ d ∈ ks, Zdl d) (hu : ∀ ls ∈ rss, Up ks.length 0 ls) (hl : rss.length ≤ 1000) (h8 : ks.length ≤ 8) (hj : bs.length + j = ks.length) (H : HD) :
  ∃ H', Zg7 [.tup [.tup ks, .tup (rss.map Zan)], .tup (bs.map .bl)] H = some (Zbm (W ks rss j bs), H') ∧ Fz H H' := by
 obtain ⟨kvs, H1, q, fz, e1, g1, d1, x1⟩ := Zim (bs := bs) hu hl H
 obtain ⟨H2, e2, x2⟩ := Zpk hk hu hl j 10 bs kvs q fz H1 (by omega) hj g1 d1
 refine ⟨H2, ?_, x1.trans x2⟩
 have at0 : atI [D.tup ks, D.tup (rss.map Zan)] 0 = some (.tup ks) := Zaz (j := 0) rfl
 have at1 : atI [D.tup ks, D.tup (rss.map Zan)] 1 = some (.tup (rss.map Zan)) := Zaz (j := 1) rfl
 show ((Zfq [some (.tup [.tup ks, .tup (rss.map Zan)]), some (.tup (bs.map .bl))] H).bind _) = _
 unfold Zfq
 have e2' : Zco [.tup ks, .ref q, .int bs.length] H1 = some (Zbm (W ks rss j bs), H2) := e2
 have ec : Zai 3 Zco (Zaa (eOp ixD (Zac 0) (eC (.int 0))) (Zaa (Zai 2 Zbq (Zaa (eOp ixD (Zac 0) (eC (.int 1))) (Zaa (Zac 1) Zae))) (Zaa (eCB Zdk (Zaa (Zac 1) Zae)) Zae))) [some (.tup [.tup ks, .tup (rss.map Zan)]), some (.tup (bs.map .bl))] H = some (Zbm (W ks rss j bs), H2) :=
  ca (ac (op (vr rfl) rfl (ixT at0)) (ac (ca (ac (op (vr rfl) rfl (ixT at1)) (ac (vr rfl) an)) rfl e1) (ac (cb (ac (vr rfl) an) (lenB bs _)) an))) rfl e2'
 rw [Zja (rt ec)]
 rfl
end K08
namespace K08
open PySem L2 DL LH WP
theorem at1 (a b : D) : atI [a, b] 1 = some b := Zaz (j := 1) rfl
theorem Fz.fm {H H' : HD} (x : Fz H H') : Fm [] H H' := ⟨fun m o _ h => x.old m o h, x.len⟩
structure Cl (ks : List D) (rss : List (List Int)) : Prop where
 hk : ∀ d ∈ ks, Zdl d
 hu : ∀ ls ∈ rss, Up ks.length 0 ls
 hl : rss.length ≤ 1000
 h8 : ks.length ≤ 8
noncomputable def Zkz (ks : List D) (rss : List (List Int)) : D := .tup [.tup ks, .tup (rss.map Zan)]
variable {H : HD} {Q : D -> HD -> Prop}
theorem w_cl1 {ks : List D} {rss : List (List Int)} (q : Q (.tup (rss.map Zan)) H) : wE (ixD (Zkz ks rss) (.int 1) H) Q := ⟨_, _, ixT (at1 _ _), q⟩
noncomputable def FW (ks : List D) (rss : List (List Int)) (bs : List Bool) : D := Zbm (W ks rss (ks.length - bs.length) bs)
theorem Zzz {bs : List Bool} {t : Bool} {H : HD} {Q : D -> HD -> Prop} (h : bs.length ≤ 1000) (q : Q (Zba (bs ++ [t])) H) : wE (Zbn (Zba bs) (.tup [.bl t]) H) Q :=
 ⟨Zba (bs ++ [t]), H, by unfold Zba; rw [adT (by simp; omega), List.map_append]; rfl, q⟩
theorem Zvq {ks : List D} (hk : ∀ d ∈ ks, Zdl d) {i : Nat} (h : i < ks.length) : ks[i]? = some (Zbm (kS (ks.getD i .non))) := by
 have e0 : ks.getD i .non = ks[i] := by simp [List.getD, h]
 have := Zh7 (hk ks[i] (List.getElem_mem h))
 rw [List.getElem?_eq_getElem h, e0]
 exact congrArg some this
theorem Zt0 {a b : Bool} (q : Q (.bl (a == b)) H) : wE (eqD (Zbm a) (Zbm b) H) Q := ⟨_, _, Zpt _ _ _, q⟩
variable {H : HD} {Q : D -> HD -> Prop}
theorem Zt8 {ks : List D} {rss : List (List Int)} {bs : List Bool} (c : Cl ks rss) (hb : bs.length ≤ ks.length) {H : HD} {Q : D -> HD -> Prop}
  (q : ∀ H', Fm [] H H' -> Q (FW ks rss bs) H') : wE (Zg7 [Zkz ks rss, Zba bs] H) Q := by
 obtain ⟨H1, e1, x1⟩ := Zqt (bs := bs) (j := ks.length - bs.length) c.hk c.hu c.hl c.h8 (by omega) H
 exact ⟨_, _, e1, q H1 x1.fm⟩
local macro_rules | `(tactic| fail $s:str) => do
 if s.getString == "g" then `(tactic| (repeat fail "go")) else if s.getString == "i" then `(tactic| ((repeat fail "go"); (refine WP.w_if ?_; (repeat fail "go")))) else Lean.Macro.throwUnsupported
local macro_rules | `(tactic| fail $s:str) => do
 if s.getString == "lk" then `(tactic| first | assumption | with_reducible exact WP.last | (with_reducible refine WP.appL ?_; fail "lk"))
 else if s.getString == "go" then do
  let a0 ← `(by with_unfolding_all rfl)
  let a1 ← `(?_)
  let a2 ← `(by first | (simp; done) | (simp; omega) | omega)
  let a3 ← `(by decide)
  let a4 ← `(by with_unfolding_all first | exact (rfl : _ = true) | exact (rfl : _ = false))
  let a5 ← `(by fail "lk")
  let a6 ← `(by with_unfolding_all exact rfl)
  let t ← ([`WP.w_var].map (·, [a0, a1]) ++ [`WP.w_c, `WP.w_seq, `WP.w_kn, `WP.w_set, `WP.w_op, `WP.w_acons, `WP.w_anil, `WP.w_call, `WP.w_cb, `WP.w_tof, `WP.w_bl, `WP.w_bt, `WP.w_bf, `WP.w_bnt, `WP.w_bnf, `WP.w_ret, `WP.w_fr, `WP.w_kr, `WP.w_snil, `WP.w_expr, `WP.w_for, `WP.w_or, `WP.w_an, `WP.w_no, `WP.w_ttru, `WP.w_eif, `WP.w_eno, `WP.w_ean, `WP.w_eorr, `WP.w_un, `WP.w_ch, `WP.w_int, `WP.w_tup, `WP.w_lst, `WP.w_lm, `WP.w_tm, `WP.w_dm, `WP.w_dn, `WP.w_on, `WP.w_os, `WP.w_sl, `WP.w_rv, `WP.w_lc, `WP.w_asg, `WP.w_gnm, `WP.w_gsb, `WP.w_gcn, `WP.w_gnl].map (·, [a1]) ++ [`WP.w_n, `WP.w_gtp, `WP.w_ixT, `WP.w_isN, `WP.w_isnN, `WP.w_isBl, `WP.w_isnBl].map (·, [a0, a1]) ++ [`WP.w_sz, `WP.w_addT].map (·, [a2, a1]) ++ [`WP.w_mod].map (·, [a3, a1]) ++ [`WP.w_fdiv, `WP.w_mulL, `WP.w_mulR].map (·, [a3, a3, a1]) ++ [`WP.w_eqI', `WP.w_neI', `WP.w_eqS', `WP.w_neS'].map (·, [a4, a1]) ++ [`WP.w_lenR, `WP.w_tupR, `WP.w_itR].map (·, [a5, a1]) ++ [`WP.w_ixR].map (·, [a5, a0, a1]) ++ [`WP.w_isi'].map (·, [a0, a0, a4, a1]) ++ [`WP.w_addI, `WP.w_subI, `WP.w_lt, `WP.w_le, `WP.w_gt, `WP.w_ge, `WP.w_slhi, `WP.w_sllo, `WP.w_sllo1, `WP.w_neg, `WP.w_eqI, `WP.w_neI, `WP.w_eqS, `WP.w_neS, `WP.w_lenT, `WP.w_lenF, `WP.w_abs, `WP.w_intI, `WP.w_intB, `WP.w_max, `WP.w_min, `WP.w_truB, `WP.w_truT, `WP.w_truN, `WP.w_isq, `WP.w_itT, `WP.w_itF, `WP.w_ir1, `WP.w_ir2, `WP.w_ir3, `WP.w_idic, `WP.w_enum, `WP.w_enum1, `WP.w_zip, `WP.w_yes, `WP.w_retn, `WP.w_fn, `WP.w_agn, `WP.w_agr, `WP.w_kb, `WP.w_kc, `WP.w_agb, `WP.w_agc, `WP.w_brk, `WP.w_cnt].map (·, [a1]) ++ [`WP.w_bT, `WP.w_bF].map (·, [a6, a1]) : List (Lean.Name × List Lean.Term)).foldrM (fun p (r : Lean.TSyntax `tactic) => `(tactic| first | with_reducible refine $(Lean.Syntax.mkApp (Lean.mkIdent p.1) p.2.toArray) | $r:tactic)) (← `(tactic| fail "no"))
  return t
 else Lean.Macro.throwUnsupported
local macro_rules | `(tactic| fail $s:str) => do
 if s.getString == "go" then `(tactic| first | with_reducible refine w_lenP ?_ | with_reducible refine Zzz (by omega) ?_ | with_reducible refine w_cl0 ?_ | with_reducible refine w_cl1 ?_)
 else Lean.Macro.throwUnsupported
variable {H : HD} {Q : D -> HD -> Prop}
theorem Zlc {m : Int} : ∀ (ls : List Int) (last : Int), 0 ≤ last -> Up m last ls -> ∀ l ∈ ls, last < Za5 l ∧ Za5 l ≤ m
 | [], _, _, _, _, h => by cases h
 | l :: r, last, h0, u, x, h => by
  obtain ⟨u1, u2, u3⟩ := u
  rcases List.mem_cons.mp h with rfl | h
  ·exact ⟨u1, u2⟩
  ·have := Zlc r (Za5 l) (by omega) u3 x h; omega
theorem Zu2 {m : Int} (hm : m ≤ 8) {ls : List Int} (h : Up m 0 ls) : RowIn m (Zan ls) := by
 have b : ∀ (ls : List Int) (last : Int), 0 ≤ last -> Up m last ls -> (∀ l ∈ ls, l ≠ 0 ∧ -10 ≤ l ∧ l ≤ 10) ∧ (ls.length : Int) ≤ m - last ∨ (ls = []) := by
  intro ls
  induction ls with
  | nil => intro _ _ _; exact .inr rfl
  | cons l r ih =>
   intro last h0 u
   obtain ⟨u1, u2, u3⟩ := u
   have ha : l ≠ 0 ∧ -10 ≤ l ∧ l ≤ 10 := by unfold Za5 at u1 u2; split at u1 <;> omega
   rcases ih (Za5 l) (by omega) u3 with ⟨i1, i2⟩ | rfl
   ·refine .inl ⟨fun x hx => ?_, ?_⟩
    ·rcases List.mem_cons.mp hx with rfl | hx
     ·exact ha
     ·exact i1 x hx
    ·rw [List.length_cons]; omega
   ·refine .inl ⟨fun x hx => ?_, ?_⟩
    ·simp at hx; subst hx; exact ha
    ·simp; omega
 refine ⟨ls, rfl, ?_, ?_, h⟩
 ·rcases b ls 0 (Int.le_refl _) h with ⟨i1, _⟩ | rfl
  ·exact i1
  ·simp
 ·rcases b ls 0 (Int.le_refl _) h with ⟨_, i2⟩ | rfl
  ·omega
  ·simp
theorem Cl.len9 {ks : List D} {rss : List (List Int)} (c : Cl ks rss) {ls : List Int} (h : ls ∈ rss) : ls.length ≤ 9 := by
 obtain ⟨ls', e, _, l9, _⟩ := Zu2 (by have := c.h8; omega) (c.hu ls h)
 have : ls = ls' := Zrx e
 rw [this]; exact l9
theorem w_eqB {a b : Bool} (q : Q (.bl (a == b)) H) : wE (eqD (.bl a) (.bl b) H) Q := Zxs (.bl a) (.bl b) (by omega) (by omega) (by simpa [PyData.eqv] using q)
noncomputable def sidN (b : Bool) : Str := if b then "some" else "all"
theorem Zlb (b : Bool) : Fine (Zbm b) (.str (sidN b)) 0 := by
 cases b
 ·exact Fine.str (Zgb (by decide))
 ·exact Fine.str (Zgb (by decide))
theorem Zry {d : D} (h : Zdl d) : ∃ x, Fine d x 0 := by rw [Zh7 h]; exact ⟨_, Zlb _⟩
theorem Zh0 (ls : List Int) : Fines (ls.map .int) (ls.map .int) 0 := by
 induction ls with
 | nil => exact .nil
 | cons l r ih => exact .cons (.int l) ih
theorem Zun (ls : List Int) : Fine (Zan ls) (.tuple (ls.map .int)) 1 := Fine.tup (Zh0 ls)
theorem Zf4 (rss : List (List Int)) : Fines (rss.map Zan) (rss.map fun ls => .tuple (ls.map .int)) 1 := by
 induction rss with
 | nil => exact .nil
 | cons l r ih => exact .cons (Zun l) ih
theorem Zis {ks : List D} {rss : List (List Int)} (hk : ∀ d ∈ ks, Zdl d) : ∃ x, Fine (Zkz ks rss) x 3 := by
 obtain ⟨xs, f⟩ := Fines.of ks fun d hd => Zry (hk d hd)
 exact ⟨_, Fine.tup (Fines.cons ((Fine.tup f).le (by omega)) (Fines.cons (Fine.tup (Zf4 rss)) Fines.nil))⟩
theorem Zvc {ks ks' : List D} {rss rss' : List (List Int)} {as bs : List Bool} (h : FW ks rss as = FW ks' rss' bs) (q : Q (.bl false) H) : wE (neD (FW ks rss as) (FW ks' rss' bs) H) Q := by
 rw [h]
 exact Ztw (Zlb _) (by omega) q
theorem Zi8 (bs : List Bool) : Fines (bs.map .bl) (bs.map .bool) 0 := by
 induction bs with
 | nil => exact .nil
 | cons l r ih => exact .cons (.bl l) ih
theorem Zyc {t : TF} {f g : SF} {σ : SD} {R : FD -> SD -> HD -> Prop} (B : Bool) (h : wT (t σ H) fun b H' => H' = H ∧ b = B) (ht : B = true -> wS (f σ H) R) (hf : B = false -> wS (g σ H) R) : wS (sIf t f g σ H) R := by
 obtain ⟨b, H1, e, rfl, rfl⟩ := h
 exact w_if ⟨_, _, e, ht, hf⟩
theorem w_mix {cell k : Int} (h0 : 0 ≤ k) (h1 : k ≤ 100) (q : ∀ r H', 0 ≤ r -> r < 2147483648 -> Fm [] H H' -> Q (.int r) H') : wE (Zh3 [.int cell, .int k] H) Q := by
 refine Zcf rfl ?_
 show wS (Zem [some (.int cell), some (.int k), none, none] H) _
 unfold Zem
 obtain ⟨P, hP, hP2, eP⟩ : ∃ P : Int, 0 < P ∧ P < 2147483648 ∧ atI [D.int 2147483647, .int 2147483629, .int 2147483587, .int 2147483579, .int 2147483563, .int 2147483549, .int 2147483543] (k % 7) = some (.int P) := by
  rcases (show k % 7 = 0 ∨ k % 7 = 1 ∨ k % 7 = 2 ∨ k % 7 = 3 ∨ k % 7 = 4 ∨ k % 7 = 5 ∨ k % 7 = 6 by omega) with h | h | h | h | h | h | h <;> rw [h]
  ·exact ⟨2147483647, by omega, by omega, rfl⟩
  ·exact ⟨2147483629, by omega, by omega, rfl⟩
  ·exact ⟨2147483587, by omega, by omega, rfl⟩
  ·exact ⟨2147483579, by omega, by omega, rfl⟩
  ·exact ⟨2147483563, by omega, by omega, rfl⟩
  ·exact ⟨2147483549, by omega, by omega, rfl⟩
  ·exact ⟨2147483543, by omega, by omega, rfl⟩
 fail "g"
 refine w_ixR last eP ?_
 fail "g"
 have c0 := Int.emod_nonneg cell (show (998244353 : Int) ≠ 0 by decide)
 have c1 := Int.emod_lt_of_pos cell (show (0 : Int) < 998244353 by decide)
 generalize cell % 998244353 = c at *
 refine w_mulL (by omega) (by omega) ?_
 fail "g"
 refine w_mulL (by omega) (by omega) ?_
 fail "g"
 refine w_mod hP ?_
 have a0 := Int.emod_nonneg ((c + 104729 * (k + 1)) * (k * k + 7 * k + 13)) (show P ≠ 0 by omega)
 have a1 := Int.emod_lt_of_pos ((c + 104729 * (k + 1)) * (k * k + 7 * k + 13)) hP
 generalize (c + 104729 * (k + 1)) * (k * k + 7 * k + 13) % P = a at *
 fail "g"
 refine w_pow (by decide) (by decide) (by omega) ?_
 fail "g"
 have b0 := Int.emod_nonneg (a ^ (5 : Int).toNat) (show (1000000007 : Int) ≠ 0 by decide)
 have b1 := Int.emod_lt_of_pos (a ^ (5 : Int).toNat) (show (0 : Int) < 1000000007 by decide)
 generalize a ^ (5 : Int).toNat % 1000000007 = b at *
 refine w_mod hP ?_
 have d0 := Int.emod_nonneg (b * 48271 + 31 * k + 5) (show P ≠ 0 by omega)
 have d1 := Int.emod_lt_of_pos (b * 48271 + 31 * k + 5) hP
 generalize (b * 48271 + 31 * k + 5) % P = d at *
 fail "g"
 refine w_pow (by decide) (by decide) (by omega) ?_
 fail "g"
 have e0 := Int.emod_nonneg (d ^ (3 : Int).toNat) (show (998244353 : Int) ≠ 0 by decide)
 have e1 := Int.emod_lt_of_pos (d ^ (3 : Int).toNat) (show (0 : Int) < 998244353 by decide)
 generalize d ^ (3 : Int).toNat % 998244353 = e at *
 exact q _ _ (by omega) (by omega) (Fm.app _)
noncomputable def Zoq (ds : List Int) : Prop := ∀ d ∈ ds, 0 ≤ d ∧ d < 2147483648
theorem Zg5 {cell : Int} {many : Nat} (h1 : many ≤ 100) (q : ∀ (ds : List Int) p H', ds.length = many -> Zoq ds -> H'[p]? = some (.lst (ds.map .int)) -> H.length ≤ p -> Fm [] H H' -> Q (.ref p) H') : wE (Zcl [.int cell, .int many] H) Q := by
 refine Zcf rfl ?_
 show wS (Zc8 [some (.int cell), some (.int many), none, none, none, none] H) _
 unfold Zc8
 fail "g"
 refine w_pow (by decide) (by decide) (by decide) ?_
 fail "g"
 generalize decide ((10 : Int) ^ (18 : Int).toNat ≤ Za5 cell) = wide
 refine ⟨_, rfl, ⟨by omega, by omega⟩, ?_⟩
 rw [show ((many : Int)).toNat = many by omega]
 refine Zdf (fun d t σ H' => d ++ t = Zau 0 many ∧ ∃ (ds : List Int) (L : Int) (z5 : Option D), ds.length = d.length ∧ Zoq ds ∧ H'[H.length]? = some (.lst (ds.map .int)) ∧ Fm [H.length] (H ++ [.lst []]) H' ∧ 0 ≤ L ∧ σ = [some (.int cell), some (.int many), some (.ref H.length), some (.int L), some (.bl wide), z5]) (fun _ _ _ _ _ => Zpw) (fun d x t σ H1 ⟨e0, ds, L, z5, e1, e2, e3, x1, hL, e5⟩ => ?_) (fun d σ H1 ⟨e0, ds, L, z5, e1, e2, e3, x1, hL, e5⟩ => ?_) _ [] _ _ ⟨rfl, [], Za5 cell, _, rfl, (by intro d h; cases h), last, Fm.refl, (by unfold Za5; split <;> omega), rfl⟩
 ·subst e5
  have hx : x ∈ Zau 0 many := by rw [← e0]; simp
  simp only [Zau, List.mem_map, List.mem_range] at hx
  obtain ⟨i, hi, rfl⟩ := hx
  have hd : d.length ≤ 100 := by
   have := congrArg List.length e0
   simp [Zau] at this
   omega
  fail "g"
  refine Zyc (wide && decide (0 < L)) ?_ (fun h => ?_) (fun h => ?_)
  ·fail "g"
   cases wide
   ·exact ⟨(fun z => nomatch z), fun _ => ⟨rfl, rfl⟩⟩
   ·refine ⟨fun _ => ?_, (fun z => nomatch z)⟩
    fail "g"
    exact ⟨rfl, by simp⟩
  ·fail "g"
   refine ⟨isl e3, ?_⟩
   fail "g"
   refine Zg3 e3 (by simp; omega) ?_
   fail "g"
   have m0 := Int.emod_nonneg L (show (10007 : Int) ≠ 0 by decide)
   have m1 := Int.emod_lt_of_pos L (show (0 : Int) < 10007 by decide)
   refine ⟨by rw [← e0]; simp, ds ++ [L % 10007], L / 10007, _, by simp [e1], ?_, ?_, x1.trans (Fm.set (by simp)), Int.ediv_nonneg hL (by decide), rfl⟩
   ·intro y hy
    rcases List.mem_append.mp hy with h | h
    ·exact e2 y h
    ·simp at h; subst h; exact ⟨m0, by omega⟩
   ·rw [List.map_append]; exact Zw4 e3
  ·fail "g"
   refine ⟨isl e3, ?_⟩
   fail "g"
   refine w_mix (by omega) (by omega) fun r H2 r0 r1 x2 => ?_
   fail "g"
   have e3' := x2.lst (by simp) e3
   refine Zg3 e3' (by simp; omega) ?_
   fail "g"
   refine ⟨by rw [← e0]; simp, ds ++ [r], L, _, by simp [e1], ?_, ?_, (x1.trans (x2.sub (by simp))).trans (Fm.set (by simp)), hL, rfl⟩
   ·intro y hy
    rcases List.mem_append.mp hy with h | h
    ·exact e2 y h
    ·simp at h; subst h; exact ⟨r0, r1⟩
   ·rw [List.map_append]; exact Zw4 e3'
 ·subst e5
  have hd : d.length = many := by
   have := congrArg List.length e0
   simpa [Zau] using this
  fail "g"
  exact q ds _ H1 (by omega) e2 e3 (Nat.le_refl _) ((Fm.app (S := []) _).new x1 (by intro m hm _; simp at hm; omega))
theorem w_at {ns : List Int} {k : Int} (h0 : 0 ≤ k) (h1 : k ≤ 1000) (q : ∀ c, Q (.int c) H) : wE (Zd4 [.fl (ns.map .int), .int k] H) Q := by
 refine Zcf rfl ?_
 show wS (Zfn [some (.fl (ns.map .int)), some (.int k)] H) _
 unfold Zfn
 fail "i"
 refine ⟨fun h => ?_, fun h => ?_⟩
 ·have lt : k.toNat < ns.length := by have := of_decide_eq_true h; simp at this; omega
  fail "g"
  refine w_ixF (Zhy h0 (d := .int ns[k.toNat]) (by rw [List.getElem?_map, List.getElem?_eq_getElem lt]; rfl)) ?_
  fail "g"
  exact q _
 ·fail "g"
  exact q _
theorem Zeh {p : Nat} {ds : List Int} {i : Int} (g : H[p]? = some (.lst (ds.map .int))) (hd : Zoq ds) (h0 : 0 ≤ i) (h1 : i < ds.length) (q : ∀ r, 0 ≤ r -> r < 2147483648 -> Q (.int r) H) : wE (ixD (.ref p) (.int i) H) Q := by
 have lt : i.toNat < ds.length := by omega
 have hm := hd _ (List.getElem_mem lt)
 exact w_ixR g (Zhy h0 (d := .int ds[i.toNat]) (by rw [List.getElem?_map, List.getElem?_eq_getElem lt]; rfl)) (q _ hm.1 hm.2)
theorem Zvk {r : Int} (h0 : 0 ≤ r) (h1 : r < 2) : ∃ k, Zdl k ∧ atI [D.str "all", .str "some"] r = some k := by
 rcases (show r = 0 ∨ r = 1 by omega) with rfl | rfl
 ·exact ⟨_, .inl rfl, rfl⟩
 ·exact ⟨_, .inr rfl, rfl⟩
theorem Zy7 {r : Int} (h0 : 0 ≤ r) (h1 : r < 2) : ∃ k, Zdl k ∧ atI [D.str "some", .str "all"] r = some k := by
 rcases (show r = 0 ∨ r = 1 by omega) with rfl | rfl
 ·exact ⟨_, .inr rfl, rfl⟩
 ·exact ⟨_, .inl rfl, rfl⟩
theorem mod2 (r : Int) : 0 ≤ r % 2 ∧ r % 2 < 2 := by omega
theorem Zv1 {p : Nat} {ds : List Int} {many : Nat} (g : H[p]? = some (.lst (ds.map .int))) (hd : Zoq ds) (hl : many + 1 ≤ ds.length) (h100 : many ≤ 100) (q : ∀ ks H', (∀ d ∈ ks, Zdl d) -> ks.length = many -> Fm [] H H' -> Q (.tup ks) H') : wE (Ze9 [.ref p, .int many] H) Q := by
 refine Zcf rfl ?_
 show wS (Zdm [some (.ref p), some (.int many), none, none, none] H) _
 unfold Zdm
 fail "g"
 have hp : p < H.length := (List.getElem?_eq_some_iff.mp g).1
 refine ⟨_, rfl, ⟨by omega, by omega⟩, ?_⟩
 rw [show ((many : Int)).toNat = many by omega]
 refine Zdf (fun d t σ H' => d ++ t = Zau 0 many ∧ ∃ (ks : List D) (z3 z4 : Option D), ks.length = d.length ∧ (∀ d ∈ ks, Zdl d) ∧ H'[H.length]? = some (.lst ks) ∧ Fm [H.length] (H ++ [.lst []]) H' ∧ σ = [some (.ref p), some (.int many), some (.ref H.length), z3, z4]) (fun _ _ _ _ _ => Zpw) (fun d x t σ H1 ⟨e0, ks, z3, z4, e1, e2, e3, x1, e5⟩ => ?_) (fun d σ H1 ⟨e0, ks, z3, z4, e1, e2, e3, x1, e5⟩ => ?_) _ [] _ _ ⟨rfl, [], _, _, rfl, (by intro d h; cases h), last, Fm.refl, rfl⟩
 ·subst e5
  have hx : x ∈ Zau 0 many := by rw [← e0]; simp
  simp only [Zau, List.mem_map, List.mem_range] at hx
  obtain ⟨i, hi, rfl⟩ := hx
  have hdl : d.length ≤ 100 := by
   have := congrArg List.length e0
   simp [Zau] at this
   omega
  have gp : H1[p]? = some (.lst (ds.map .int)) := x1.lst (by simp; omega) (appL g)
  have Jn : ∀ (L : List D) {H2 : HD}, Fm [H.length] (H ++ [.lst []]) H2 -> H2[p]? = some (.lst (ds.map .int)) -> H2[H.length]? = some (.lst ks) -> Fm [H.length] (H ++ [.lst []]) (H2 ++ [.lst L]) ∧ (H2 ++ [.lst L])[p]? = some (.lst (ds.map .int)) ∧ (H2 ++ [.lst L])[H.length]? = some (.lst ks) := fun L H2 a b c => ⟨a.trans (Fm.app _), appL b, appL c⟩
  refine w_gnm (w_seq ?_)
  refine Zut (fun σ H2 => (Fm [H.length] (H ++ [.lst []]) H2 ∧ H2[p]? = some (.lst (ds.map .int)) ∧ H2[H.length]? = some (.lst ks)) ∧ ∃ k, Zdl k ∧ σ = [some (.ref p), some (.int many), some (.ref H.length), some (.int (0 + i)), some k]) ?_ ?_
  ·fail "g"
   refine Zeh (appL gp) hd (by omega) (by omega) fun r r0 r1 => ?_
   fail "g"
   obtain ⟨k, hk, ek⟩ := Zvk (mod2 r).1 (mod2 r).2
   refine w_ixR last ek ?_
   exact ⟨rfl, Jn _ x1 gp e3, k, hk, rfl⟩
  rintro _ H2 ⟨⟨x2, g2, e4⟩, k, hk, rfl⟩
  refine w_seq (Zut (fun σ H2 => (Fm [H.length] (H ++ [.lst []]) H2 ∧ H2[p]? = some (.lst (ds.map .int)) ∧ H2[H.length]? = some (.lst ks)) ∧ ∃ k, Zdl k ∧ σ = [some (.ref p), some (.int many), some (.ref H.length), some (.int (0 + i)), some k]) ?_ ?_)
  ·(refine WP.w_if ?_; fail "g")
   refine Zeh g2 hd (by omega) (by omega) fun r r0 r1 => ?_
   fail "g"
   refine ⟨fun h => ?_, fun h => ?_⟩
   ·fail "g"
    refine Zeh (appL g2) hd (by omega) (by omega) fun r' r0' r1' => ?_
    fail "g"
    obtain ⟨k2, hk2, ek2⟩ := Zy7 (mod2 (0 + (i : Int) + r')).1 (mod2 _).2
    refine w_ixR last ek2 ?_
    fail "g"
    exact ⟨rfl, Jn _ x2 g2 e4, k2, hk2, rfl⟩
   ·fail "g"
    exact ⟨rfl, ⟨x2, g2, e4⟩, k, hk, rfl⟩
  rintro _ H3 ⟨⟨x3, g3, e6⟩, k, hk, rfl⟩
  refine w_seq (Zut (fun σ H2 => (Fm [H.length] (H ++ [.lst []]) H2 ∧ H2[p]? = some (.lst (ds.map .int)) ∧ H2[H.length]? = some (.lst ks)) ∧ ∃ k, Zdl k ∧ σ = [some (.ref p), some (.int many), some (.ref H.length), some (.int (0 + i)), some k]) ?_ ?_)
  ·(refine WP.w_if ?_; fail "g")
   refine Zeh g3 hd (by omega) (by omega) fun r r0 r1 => ?_
   fail "g"
   refine ⟨fun h => ?_, fun h => ?_⟩
   ·fail "g"
    refine Zeh (appL g3) hd (by omega) (by omega) fun r' r0' r1' => ?_
    fail "g"
    obtain ⟨k2, hk2, ek2⟩ := Zvk (r := if decide (0 < r' % 3) = true then 1 else 0) (by split <;> omega) (by split <;> omega)
    refine w_ixR last ek2 ?_
    fail "g"
    exact ⟨rfl, Jn _ x3 g3 e6, k2, hk2, rfl⟩
   ·fail "g"
    exact ⟨rfl, ⟨x3, g3, e6⟩, k, hk, rfl⟩
  rintro _ H4 ⟨⟨x4, g4, e7⟩, k, hk, rfl⟩
  fail "g"
  refine ⟨isl e7, ?_⟩
  fail "g"
  refine Zg3 e7 (by omega) ?_
  fail "g"
  refine ⟨by rw [← e0]; simp, ks ++ [k], _, _, by simp [e1], ?_, Zw4 e7, x4.trans (Fm.set (by simp)), rfl⟩
  intro y hy
  rcases List.mem_append.mp hy with h | h
  ·exact e2 y h
  ·simp at h; subst h; exact hk
 ·subst e5
  have hdl : d.length = many := by
   have := congrArg List.length e0
   simpa [Zau] using this
  fail "g"
  exact q ks H1 e2 (by omega) ((Fm.app (S := []) _).new x1 (by intro m hm _; simp at hm; omega))
theorem Zq0 {m : Int} : ∀ (ls : List Int) (last l : Int), Up m last ls -> (∀ x ∈ ls, Za5 x < Za5 l) -> last < Za5 l -> Za5 l ≤ m -> Up m last (ls ++ [l])
 | [], last, l, _, _, h1, h2 => ⟨h1, h2, trivial⟩
 | x :: r, last, l, u, h, h1, h2 => by
  obtain ⟨u1, u2, u3⟩ := u
  exact ⟨u1, u2, Zq0 r (Za5 x) l u3 (fun y hy => h y (by simp [hy])) (h x (by simp)) h2⟩
theorem Zlh (lo : Int) (m : Nat) : Zau lo (m + 1) = .int lo :: Zau (lo + 1) m := by
 unfold Zau
 rw [List.range_succ_eq_map, List.map_cons, List.map_map]
 have e0 : D.int (lo + ((0 : Nat) : Int)) = .int lo := by simp
 rw [e0]
 refine congrArg (List.cons _) (List.map_congr_left fun a _ => ?_)
 show D.int _ = D.int _
 congr 1
 omega
theorem Zki {cell : Int} {M : Nat} {wide : Int} (hM : M ≤ 8) (q : ∀ ls H', Up M 0 ls -> Fm [] H H' -> Q (Zan ls) H') : wE (Zdv [.int cell, .int M, .int wide] H) Q := by
 refine Zcf rfl ?_
 show wS (Zen [some (.int cell), some (.int M), some (.int wide), none, none, none] H) _
 unfold Zen
 fail "g"
 rw [show (M : Int) + 1 = ((M + 1 : Nat) : Int) by omega]
 refine Zg5 (by omega) fun ds p H1 l1 d1 g1 n1 x1 => ?_
 fail "g"
 refine ⟨_, rfl, ⟨by omega, by omega⟩, ?_⟩
 rw [Int.toNat_natCast]
 refine Zdf (fun d t σ H' => ∃ ls : List Int, t = Zau (d.length : Int) (M - d.length) ∧ H'[p]? = some (.lst (ds.map .int)) ∧ H'[H1.length]? = some (.lst (ls.map .int)) ∧ ls.length ≤ d.length ∧ d.length ≤ M ∧ Up M 0 ls ∧ (∀ x ∈ ls, Za5 x ≤ d.length) ∧ Fm [] H H' ∧ ∃ z, σ = [some (.int cell), some (.int M), some (.int wide), some (.ref p), some (.ref H1.length), z]) (fun _ _ _ _ _ => Zpw) (fun d x t σ H2 ⟨ls, i1, i2, i3, i4, i5, i6, i7, i8, z, i9⟩ => ?_) (fun d σ H2 ⟨ls, i1, i2, i3, i4, i5, i6, i7, i8, z, i9⟩ => ?_) _ [] _ _ ⟨[], by simp, appL g1, last, by simp, by simp, trivial, by simp, x1.trans (Fm.app _), none, rfl⟩
 ·subst i9
  obtain ⟨k, hk⟩ : ∃ k, M - d.length = k + 1 := by
   cases h : M - d.length with
   | zero => rw [h] at i1; simp [Zau] at i1
   | succ k => exact ⟨k, rfl⟩
  rw [hk, Zlh] at i1
  obtain ⟨rfl, rfl⟩ := List.cons.inj i1
  have tl : Zau ((d.length : Int) + 1) k = Zau (((d ++ [D.int (d.length : Int)]).length : Nat) : Int) (M - (d ++ [D.int (d.length : Int)]).length) := by
   simp only [List.length_append, List.length_cons, List.length_nil]
   congr 1
   omega
  fail "i"
  refine Zeh i2 d1 (by omega) (by omega) fun r r0 r1 => ?_
  fail "g"
  refine w_mod (by omega) ?_
  fail "g"
  refine Zeh i2 d1 (by omega) (by omega) fun r' r0' r1' => ?_
  fail "g"
  refine ⟨fun h => ?_, fun h => ?_⟩
  ·fail "g"
   refine ⟨isl i3, ?_⟩
   fail "g"
   refine Zeh (appL i2) d1 (by omega) (by omega) fun r2 r20 r21 => ?_
   fail "g"
   refine w_fdiv (by omega) (by omega) ?_
   fail "g"
   have m2 : r2 / ((M : Int) + 1) % 2 = 0 ∨ r2 / ((M : Int) + 1) % 2 = 1 := by omega
   obtain ⟨l, hl, el⟩ : ∃ l : Int, Za5 l = (d.length : Int) + 1 ∧ atI [D.int ((d.length : Int) + 1), .int (0 - (d.length : Int) - 1)] (r2 / ((M : Int) + 1) % 2) = some (.int l) := by
    rcases m2 with z | z <;> rw [z]
    ·exact ⟨_, by unfold Za5; split <;> omega, rfl⟩
    ·exact ⟨_, by unfold Za5; split <;> omega, rfl⟩
   refine w_ixR last el ?_
   fail "g"
   refine Zg3 (appL i3) (by simp; omega) ?_
   fail "g"
   have np : H1.length ≠ p := by have := (List.getElem?_eq_some_iff.mp g1).1; omega
   refine ⟨ls ++ [l], tl, setO np (appL i2), by rw [Zw4 (appL i3)]; simp, by simp; omega, by simp; omega, Zq0 ls 0 l i6 (fun x hx => by have := i7 x hx; omega) (by omega) (by omega), fun x hx => ?_, ?_, _, rfl⟩
   ·rcases List.mem_append.mp hx with z | z
    ·have := i7 x z; simp; omega
    ·simp at z; subst z; simp; omega
   ·exact (i8.trans (Fm.app _)).new (Fm.set (S := [H1.length]) (by simp)) (fun q hq _ => by simp at hq; subst hq; exact x1.len)
  ·fail "g"
   exact ⟨ls, tl, i2, i3, by simp; omega, by simp; omega, i6, fun x hx => by have := i7 x hx; simp; omega, i8, _, rfl⟩
 ·subst i9
  fail "g"
  exact q ls H2 i6 i8
structure Shs (xs : List PyData) (w dp : Nat) : Prop where
 lay : PyData.canLayAll0 xs = true
 sh : PyData.showableAll xs = true
 dep : PyData.depthAll xs ≤ dp
 lv : PyData.leavesShortAll 40 xs = true
 wt : PyData.weightAll xs ≤ w
noncomputable def T (S : List Nat) (H : HD) (k w : Nat) (d : D) : Prop := ∃ x, (∀ H', Fm S H H' -> ∀ m, k ≤ m -> toP H' m d = some x) ∧ Sh x w k
noncomputable def Ts (S : List Nat) (H : HD) (k w : Nat) (ds : List D) : Prop := ∃ xs, (∀ H', Fm S H H' -> ∀ m, k ≤ m -> Zgo H' m ds = some xs) ∧ Shs xs w k ∧ ds.length ≤ w
section
variable {S : List Nat} {H : HD} {k w : Nat} {d : D} {ds : List D}
theorem T.of (h : Zij d w k) : T S H k w d := by
 obtain ⟨x, e, s⟩ := h
 exact ⟨x, fun H' _ m _ => e H' m, s⟩
theorem T.le {k' w' : Nat} (h : T S H k w d) (hk : k ≤ k') (hw : w ≤ w') : T S H k' w' d := by
 obtain ⟨x, e, s⟩ := h
 exact ⟨x, fun H' y m hm => e H' y m (Nat.le_trans hk hm), s.lay, s.sh, Nat.le_trans s.dep hk, s.lv, Nat.le_trans s.wt hw⟩
theorem Ts.le {k' w' : Nat} (h : Ts S H k w ds) (hk : k ≤ k') (hw : w ≤ w') : Ts S H k' w' ds := by
 obtain ⟨x, e, s, l⟩ := h
 exact ⟨x, fun H' y m hm => e H' y m (Nat.le_trans hk hm), ⟨s.lay, s.sh, Nat.le_trans s.dep hk, s.lv, Nat.le_trans s.wt hw⟩, Nat.le_trans l hw⟩
theorem T.fm {H1 : HD} (h : T S H k w d) (y : Fm S H H1) : T S H1 k w d := by
 obtain ⟨x, e, s⟩ := h
 exact ⟨x, fun H' z m hm => e H' (y.trans z) m hm, s⟩
theorem Ts.nil : Ts S H k w [] := ⟨[], fun H' _ m _ => by rw [Zgo], ⟨rfl, rfl, Nat.zero_le _, rfl, Nat.zero_le _⟩, Nat.zero_le _⟩
theorem Ts.cons {W : Nat} (a : T S H k w d) (b : Ts S H k W ds) : Ts S H k (w + W + 1) (d :: ds) := by
 obtain ⟨x, e1, s⟩ := a
 obtain ⟨xs, e2, s2, l⟩ := b
 refine ⟨x :: xs, fun H' y m hm => by rw [Zgo, e1 H' y m hm, e2 H' y m hm]; rfl, ⟨?_, ?_, ?_, ?_, ?_⟩, by simp; omega⟩
 ·simp [PyData.canLayAll0, s.lay, s2.lay]
 ·simp [PyData.showableAll, s.sh, s2.sh]
 ·simp only [PyData.depthAll]; exact Nat.max_le.mpr ⟨s.dep, s2.dep⟩
 ·simp [PyData.leavesShortAll, s.lv, s2.lv]
 ·simp only [PyData.weightAll]
  have := s.wt
  have := s2.wt
  omega
theorem Zjx {H : HD} {m : Nat} {d : D} {ds : List D} {xs : List PyData} (h : Zgo H m (d :: ds) = some xs) : ∃ x qs, toP H m d = some x ∧ Zgo H m ds = some qs ∧ xs = x :: qs := by
 rw [Zgo] at h
 obtain ⟨x, e1, h⟩ := Zo h
 obtain ⟨qs, e2, rfl⟩ := Zm h
 exact ⟨x, qs, e1, e2, rfl⟩
theorem Zjh {H : HD} {m : Nat} : ∀ {ds : List D} {xs : List PyData}, Zgo H m ds = some xs -> xs.length = ds.length
 | [], xs, h => by rw [Zgo] at h; cases h; rfl
 | d :: ds, xs, h => by
  obtain ⟨x, qs, _, e2, rfl⟩ := Zjx h
  simp [Zjh e2]
theorem Zgj : ∀ xs : List PyData, xs.length ≤ PyData.weightAll xs
 | [] => Nat.zero_le _
 | x :: xs => by
  simp only [PyData.weightAll, List.length_cons]
  have := Zgj xs
  omega
theorem Ts.two (h : Ts S H k w (d :: ds)) : ∃ a b, T S H k a d ∧ Ts S H k b ds ∧ a + b + 1 ≤ w := by
 obtain ⟨xs, e, s, l⟩ := h
 obtain ⟨x, qs, e1, e2, rfl⟩ := Zjx (e H Fm.refl k (Nat.le_refl _))
 have lay := s.lay
 have sh := s.sh
 have dep := s.dep
 have lv := s.lv
 have wt := s.wt
 simp only [PyData.canLayAll0, Bool.and_eq_true] at lay
 simp only [PyData.showableAll, Bool.and_eq_true] at sh
 simp only [PyData.depthAll] at dep
 simp only [PyData.leavesShortAll, Bool.and_eq_true] at lv
 simp only [PyData.weightAll] at wt
 have at_ : ∀ H', Fm S H H' -> ∀ m, k ≤ m -> toP H' m d = some x ∧ Zgo H' m ds = some qs := fun H' y m hm => by
  obtain ⟨x', qs', e3, e4, e5⟩ := Zjx (e H' y m hm)
  cases e5
  exact ⟨e3, e4⟩
 have ll := Zjh e2
 have wl := Zgj qs
 refine ⟨x.weight, PyData.weightAll qs, ⟨x, fun H' y m hm => (at_ H' y m hm).1, lay.1, sh.1, by omega, lv.1, Nat.le_refl _⟩, ⟨qs, fun H' y m hm => (at_ H' y m hm).2, ⟨lay.2, sh.2, by omega, lv.2, Nat.le_refl _⟩, by omega⟩, by omega⟩
theorem T.tup (h : Ts S H k w ds) : T S H (k + 1) w (.tup ds) := by
 obtain ⟨xs, e, s, _⟩ := h
 refine ⟨.tuple xs, fun H' y m hm => ?_, s.lay, s.sh, Nat.succ_le_succ s.dep, s.lv, s.wt⟩
 have q := e H' y m (by omega)
 cases m <;> rw [toP, q] <;> rfl
theorem T.parts (h : T S H k w (.tup ds)) : Ts S H k w ds := by
 obtain ⟨x, e, s⟩ := h
 have at_ : ∀ H', Fm S H H' -> ∀ m, k ≤ m -> ∃ xs, Zgo H' m ds = some xs ∧ x = .tuple xs := fun H' y m hm => by
  have := e H' y m hm
  cases m <;> rw [toP] at this <;> (obtain ⟨xs, e2, e3⟩ := Zm this; exact ⟨xs, e2, e3.symm⟩)
 obtain ⟨xs, e1, rfl⟩ := at_ H Fm.refl k (Nat.le_refl _)
 have ll := Zjh e1
 have wl := Zgj xs
 have wt : PyData.weightAll xs ≤ w := s.wt
 refine ⟨xs, fun H' y m hm => ?_, ⟨s.lay, s.sh, ?_, s.lv, wt⟩, by omega⟩
 ·obtain ⟨ys, e2, e3⟩ := at_ H' y m hm
  cases e3
  exact e2
 ·have := s.dep
  simp only [PyData.depth] at this
  omega
theorem T.lst {p : Nat} (hp : p ∉ S) (hd : H[p]? = some (.lst ds)) (h : Ts S H k w ds) : T S H (k + 1) w (.ref p) := by
 obtain ⟨xs, e, s, _⟩ := h
 refine ⟨.list xs, fun H' y m hm => ?_, s.lay, s.sh, Nat.succ_le_succ s.dep, s.lv, s.wt⟩
 match m, hm with
 | m + 1, hm =>
  rw [toP]
  simp only [y.lst hp hd, e H' y m (by omega), Option.map_some]
theorem T.rep (h : T S H k w d) (hw : w ≤ 390000) (hk : k ≤ 30) : ∃ t : Str, ∀ H', Fm S H H' -> Zot [d] H' = some (.str t, H') := by
 obtain ⟨x, e, s⟩ := h
 refine ⟨x.shown, fun H' y => ?_⟩
 unfold Zot
 simp only [e H' y 30 hk, Zb, if_pos (s.can' hw hk)]
theorem T.dat (h : T S H k w d) (hk : k ≤ 30) : ∃ x, DL.dat d H = some x ∧ toP H 30 d = some x := by
 obtain ⟨x, e, s⟩ := h
 have e1 := e H Fm.refl 30 hk
 have : x.depth ≤ 30 := Nat.le_trans s.dep hk
 exact ⟨x, by unfold DL.dat; rw [e1]; simp [okP, s.lay, this], e1⟩
theorem Ts.app {W : Nat} {es : List D} : ∀ {ds : List D} {w : Nat}, Ts S H k w ds -> Ts S H k W es -> Ts S H k (w + W) (ds ++ es)
 | [], w, _, b => b.le (Nat.le_refl _) (by omega)
 | d :: ds, w, a, b => by
  obtain ⟨a1, a2, t1, t2, l⟩ := a.two
  exact (Ts.cons t1 (Ts.app t2 b)).le (Nat.le_refl _) (by omega)
theorem Ts.drop : ∀ (i : Nat) {ds : List D} {w : Nat}, Ts S H k w ds -> Ts S H k w (ds.drop i)
 | 0, ds, w, a => a
 | i + 1, [], w, a => a
 | i + 1, d :: ds, w, a => by
  obtain ⟨a1, a2, t1, t2, l⟩ := a.two
  exact (Ts.drop i t2).le (Nat.le_refl _) (by omega)
theorem Ts.take : ∀ (i : Nat) {ds : List D} {w : Nat}, Ts S H k w ds -> Ts S H k w (ds.take i)
 | 0, ds, w, a => Ts.nil
 | i + 1, [], w, a => a
 | i + 1, d :: ds, w, a => by
  obtain ⟨a1, a2, t1, t2, l⟩ := a.two
  exact (Ts.cons t1 (Ts.take i t2)).le (Nat.le_refl _) (by omega)
theorem Zzq : ∀ j : Fin 413, (PyData.shown (.int ((j.val : Int) - 206))).length ≤ 40 ∧ ((PyData.int ((j.val : Int) - 206)).showable = true) ∧ (PyData.int ((j.val : Int) - 206)).weight ≤ 40 := by decide
theorem T.int {i : Int} (h0 : -206 ≤ i) (h1 : i ≤ 206) : T S H k 40 (.int i) := by
 have h := Zzq ⟨(i + 206).toNat, by omega⟩
 have e : (((i + 206).toNat : Nat) : Int) - 206 = i := by omega
 rw [e] at h
 exact ⟨.int i, fun H' _ m _ => Zia H' m i, rfl, h.2.1, Nat.zero_le _, by simp only [PyData.leavesShort]; exact decide_eq_true h.1, h.2.2⟩
theorem shBig : (PyData.shown (.int (10 ^ 20))).length ≤ 40 ∧ (PyData.int (10 ^ 20)).showable = true ∧ (PyData.int (10 ^ 20)).weight ≤ 70 := by decide +kernel
theorem T.big : T S H k 70 (.int (10 ^ 20)) := by
 have h := shBig
 exact ⟨.int (10 ^ 20), fun H' _ m _ => Zia H' m _, rfl, h.2.1, Nat.zero_le _, by simp only [PyData.leavesShort]; exact decide_eq_true h.1, h.2.2⟩
theorem T.bl {b : Bool} : T S H k 40 (.bl b) := (T.of Zij.bl).le (Nat.zero_le _) (Nat.le_refl _)
theorem T.non : T S H k 40 .non := (T.of Zij.non).le (Nat.zero_le _) (Nat.le_refl _)
theorem T.str {x : Str} (h : (x.cps.toList.all fun c => decide (c < 0x110000)) = true) (h2 : (x.cps.toList.all fun c => decide (c < 16 ^ 8)) = true) (h3 : x.cps.size ≤ 40) : T S H k 40 (.str x) := (T.of (Zij.str (Zgb h) h2 h3)).le (Nat.zero_le _) (Nat.le_refl _)
end
noncomputable def isI : D -> Bool
 | .int _ => true
 | _ => false
noncomputable def Zi0 (m : Int) : Int -> List D -> Bool
 | _, [] => true
 | last, .int i :: r => decide (last < Za5 i) && decide (Za5 i ≤ m) && Zi0 m (Za5 i) r
 | _, _ :: _ => false
variable {H : HD} {Q : D -> HD -> Prop} {S : List Nat} {k w : Nat}
theorem T.ty {d : D} (h : T S H k w d) (hk : k ≤ 30) : (∃ i, d = .int i) ∨ (∃ b, d = .bl b) ∨ (∃ t, tyD d H = some t ∧ t ≠ "int" ∧ t ≠ "bool" ∧ ((∃ ds, d = .tup ds) ∨ t ≠ "tuple")) := by
 obtain ⟨x, e, e1⟩ := h.dat hk
 cases d with
 | int i => exact .inl ⟨i, rfl⟩
 | bl b => exact .inr (.inl ⟨b, rfl⟩)
 | non => exact .inr (.inr ⟨"NoneType", rfl, by decide, by decide, .inr (by decide)⟩)
 | str s => exact .inr (.inr ⟨"str", rfl, by decide, by decide, .inr (by decide)⟩)
 | tup ds => exact .inr (.inr ⟨"tuple", rfl, by decide, by decide, .inl ⟨ds, rfl⟩⟩)
 | fl ds => exact .inr (.inr ⟨"list", rfl, by decide, by decide, .inr (by decide)⟩)
 | ty t => rw [toP] at e1; cases e1
 | ref p =>
  rw [toP] at e1
  split at e1
  ·rename_i g; exact .inr (.inr ⟨"list", tyR g, by decide, by decide, .inr (by decide)⟩)
  ·cases e1
theorem Zpx {d : D} (h : T S H k w d) (hk : k ≤ 30) (q : Q (.bl (isI d)) H) : wE (Zet [d] H) Q := by
 refine Zcf rfl ?_
 show wS (Zdu [some d] H) _
 unfold Zdu
 rcases h.ty hk with ⟨i, rfl⟩ | ⟨b, rfl⟩ | ⟨t, e, e1, e2, e3⟩
 ·fail "g"
  exact q
 ·fail "g"
  exact q
 ·fail "g"
  refine Zxw (c := "int") (by decide) e ?_
  have z : (t == "int" || (t == "bool" && "int" == "int")) = false := by simp [e1, e2]
  rw [z]
  fail "g"
  cases d with
  | int i => simp [tyD] at e; exact absurd e.symm e1
  | _ => exact q
theorem Zqe {m : Int} {ds : List D} (h : Ts S H k w ds) (hk : k ≤ 30) (q : Q (.bl (Zi0 m 0 ds)) H) : wE (Zc2 [.int m, .tup ds] H) Q := by
 refine Zcf rfl ?_
 show wS (Zd8 [some (.int m), some (.tup ds), none, none] H) _
 unfold Zd8
 fail "i"
 refine Zdf (fun d t σ H' => H' = H ∧ (∃ w', Ts S H k w' t) ∧ ∃ (last : Int) (z : Option D), Zi0 m last t = Zi0 m 0 ds ∧ σ = [some (.int m), some (.tup ds), some (.int last), z]) (fun _ _ _ _ _ => Zpw) (fun d x t σ H1 ⟨e1, ⟨w', e2⟩, last, z, e3, e4⟩ => ?_) (fun d σ H1 ⟨e1, ⟨w', e2⟩, last, z, e3, e4⟩ => ?_) _ [] _ _ ⟨rfl, ⟨w, h⟩, 0, _, rfl, rfl⟩
 ·subst e1 e4
  obtain ⟨a, b, t1, t2, _⟩ := e2.two
  fail "i"
  refine Zpx t1 hk ?_
  rcases (show (∃ i, x = .int i) ∨ ∀ i, x ≠ .int i by cases x <;> simp) with ⟨i, rfl⟩ | hx
  ·rw [Zi0] at e3
   fail "g"
   refine ⟨fun h => ?_, fun h => ?_⟩
   ·have h1 := of_decide_eq_true h
    rw [decide_eq_false (by omega)] at e3
    simp only [Bool.false_and] at e3
    rw [← e3] at q
    fail "g"
    exact q
   ·have h1 := of_decide_eq_false h
    fail "g"
    refine ⟨fun h => ?_, fun h => ?_⟩
    ·have h2 := of_decide_eq_true h
     rw [show decide (Za5 i ≤ m) = false from decide_eq_false (by omega)] at e3
     simp only [Bool.and_false, Bool.false_and] at e3
     rw [← e3] at q
     fail "g"
     exact q
    ·have h2 := of_decide_eq_false h
     rw [decide_eq_true (show last < Za5 i by omega), decide_eq_true (show Za5 i ≤ m by omega)] at e3
     simp only [Bool.true_and] at e3
     fail "g"
     exact ⟨rfl, ⟨b, t2⟩, Za5 i, _, e3, rfl⟩
  ·have ef : isI x = false := by cases x <;> first | rfl | exact absurd rfl (hx _)
   have e5 : Zi0 m last (x :: t) = false := by cases x <;> first | rfl | exact absurd rfl (hx _)
   rw [ef]
   rw [e5] at e3
   rw [← e3] at q
   fail "g"
   exact q
 ·subst e1 e4
  rw [Zi0] at e3
  rw [← e3] at q
  fail "g"
  exact q
theorem Zue {m : Int} {d : D} (h : T S H k w d) (hk : k ≤ 30) (hn : ∀ ds, d ≠ .tup ds) (q : Q (.bl false) H) : wE (Zc2 [.int m, d] H) Q := by
 refine Zcf rfl ?_
 show wS (Zd8 [some (.int m), some d, none, none] H) _
 unfold Zd8
 obtain ⟨t, e, e1⟩ : ∃ t, tyD d H = some t ∧ t ≠ "tuple" := by
  rcases h.ty hk with ⟨i, rfl⟩ | ⟨b, rfl⟩ | ⟨t, e, _, _, ⟨ds, rfl⟩ | e3⟩
  ·exact ⟨_, rfl, by decide⟩
  ·exact ⟨_, rfl, by decide⟩
  ·exact absurd rfl (hn ds)
  ·exact ⟨t, e, e3⟩
 refine w_seq ?_
 refine w_if ?_
 fail "g"
 refine Zxw (c := "tuple") (by decide) e ?_
 have z : (t == "tuple" || (t == "bool" && "tuple" == "int")) = false := by simp [e1]
 rw [z]
 fail "g"
 exact q
variable {H : HD} {Q : D -> HD -> Prop} {ks : List D} {rss : List (List Int)} {pas : List (List (List Int))} {n pp : Nat}
noncomputable abbrev Ze7 (rss : List (List Int)) : D := .tup (rss.map Zan)
noncomputable def Zhs (ks : List D) (rss : List (List Int)) (pp : Nat) : DO := .obj "Keeper" [("kinds", .tup ks), ("rows", Ze7 rss), ("past", .ref pp)]
noncomputable def OkR (k : Nat) (rss : List (List Int)) : Prop := rss.length ≤ 20 ∧ ∀ ls ∈ rss, Up k 0 ls
structure KP (n pp : Nat) (ks : List D) (rss : List (List Int)) (pas : List (List (List Int))) (H : HD) : Prop where
 g : H[n]? = some (Zhs ks rss pp)
 p : H[pp]? = some (.lst (pas.map Ze7))
 hk : ∀ d ∈ ks, Zdl d
 h8 : ks.length ≤ 8
 r : OkR ks.length rss
 ha : ∀ r ∈ pas, OkR ks.length r
 lp : pas.length ≤ 100000
theorem KP.cl (m : KP n pp ks rss pas H) : Cl ks rss := ⟨m.hk, m.r.2, by have := m.r.1; omega, m.h8⟩
theorem KP.keep {H' : HD} (m : KP n pp ks rss pas H) (x : Fm [] H H') : KP n pp ks rss pas H' := ⟨x.obj (by simp) m.g, x.lst (by simp) m.p, m.hk, m.h8, m.r, m.ha, m.lp⟩
theorem KP.ne (m : KP n pp ks rss pas H) : n ≠ pp := fun z => by have e := m.g; rw [z, m.p] at e; cases e
theorem KP.sub {S : List Nat} {H' : HD} (m : KP n pp ks rss pas H) (x : Fm S H H') (h1 : n ∉ S) (h2 : pp ∉ S) : KP n pp ks rss pas H' := ⟨x.obj h1 m.g, x.lst h2 m.p, m.hk, m.h8, m.r, m.ha, m.lp⟩
theorem KP.set {rss' : List (List Int)} {pas' : List (List (List Int))} (m : KP n pp ks rss pas H) (r : OkR ks.length rss') (ha : ∀ r ∈ pas', OkR ks.length r) (lp : pas'.length ≤ 100000) : KP n pp ks rss' pas' ((H.set pp (.lst (pas'.map Ze7))).set n (Zhs ks rss' pp)) := by
 have l1 : n < H.length := (List.getElem?_eq_some_iff.mp m.g).1
 have l2 : pp < H.length := (List.getElem?_eq_some_iff.mp m.p).1
 exact ⟨List.getElem?_set_self (by simpa using l1), by rw [List.getElem?_set_ne m.ne]; exact List.getElem?_set_self l2, m.hk, m.h8, r, ha, lp⟩
theorem Ts.rows {S : List Nat} {m : Int} (hm : m ≤ 200) {ls : List Int} (u : Up m 0 ls) : Ts S H 0 (41 * ls.length) (ls.map .int) := by
 have b : ∀ l ∈ ls, -200 ≤ l ∧ l ≤ 200 := fun l hl => by
  have := (Zlc ls 0 (Int.le_refl _) u l hl).2
  unfold Za5 at this; split at this <;> omega
 clear u
 induction ls with
 | nil => exact Ts.nil
 | cons l r ih =>
  have h := Ts.cons (T.int (S := S) (H := H) (k := 0) (i := l) (by have := b l (by simp); omega) (by have := b l (by simp); omega)) (ih fun x hx => b x (by simp [hx]))
  exact h.le (Nat.le_refl _) (by simp; omega)
theorem Zra {m : Int} : ∀ (ls : List Int) (last : Int), Up m last ls -> Zi0 m last (ls.map .int) = true
 | [], _, _ => rfl
 | l :: r, last, u => by rw [List.map_cons, Zi0, decide_eq_true u.1, decide_eq_true u.2.1, Zra r _ u.2.2]; rfl
theorem Znm {m : Int} {ls : List Int} (hm : m ≤ 200) (hu : Up m 0 ls) (q : Q (.bl true) H) : wE (Zc2 [.int m, Zan ls] H) Q :=
 Zqe (S := []) (k := 0) (Ts.rows hm hu) (by omega) (by rw [Zra ls 0 hu]; exact q)
theorem Zxg (g : H[n]? = some (.obj "Keeper" [])) (q : Q .non ((H ++ [DO.lst []]).set n (Zhs ks [] H.length))) : wE (Zd1 [.ref n, .tup ks] H) Q := by
 have ln : n < H.length := (List.getElem?_eq_some_iff.mp g).1
 refine Zcf rfl ?_
 show wS (Zcp [some (.ref n), some (.tup ks)] H) _
 unfold Zcp
 refine w_seq (Zjc ?_)
 fail "g"
 refine ⟨_, _, rfl, ?_⟩
 fail "g"
 refine ⟨n, _, rfl, g, by simp, ?_⟩
 refine w_kn (w_seq (Zjc (w_tup (w_anil (w_sz (by simp) (w_var rfl ⟨n, _, rfl, List.getElem?_set_self ln, by simp [Zs5], ?_⟩))))))
 refine w_kn (w_seq (Zjc ?_))
 fail "g"
 refine ⟨n, _, rfl, by rw [List.getElem?_append_left (by simpa using ln)]; exact List.getElem?_set_self (by simpa using ln), by show (2 : Nat) < 1000; omega, ?_⟩
 fail "g"
 rw [List.set_append_left _ _ ln] at q
 rw [List.set_append_left _ _ (by simpa using ln), List.set_set, List.set_set, List.length_set, List.length_set]
 exact q
theorem Zg9 (m : KP n pp ks rss pas H) (q : Q (Zkz ks rss) H) : wE (Za9 [.ref n] H) Q := by
 refine Zcf rfl ?_
 show wS (Zb9 [some (.ref n)] H) _
 unfold Zb9
 refine w_seq (w_ret (w_tup (w_acons (Zc7 (w_var rfl ⟨n, _, rfl, m.g, _, rfl, w_acons (Zc7 (w_var rfl ⟨n, _, rfl, m.g, _, rfl, ?_⟩))⟩)))))
 fail "g"
 exact q
theorem Zlr (m : KP n pp ks rss pas H) (q : ∀ H', Fm [] H H' -> Q (FW ks rss []) H') : wE (Zbd [.ref n] H) Q := by
 refine Zcf rfl ?_
 show wS (Zbx [some (.ref n)] H) _
 unfold Zbx
 refine w_seq (w_ret (w_call (w_acons (Zea (w_var rfl ⟨n, _, rfl, m.g, rfl, w_anil ⟨rfl, Zg9 m ?_⟩⟩)))))
 fail "g"
 refine Zt8 (bs := []) m.cl (by simp) fun H1 x1 => ?_
 fail "g"
 exact q _ x1
theorem Zve {ls : List Int} (m : KP n pp ks rss pas H) (u : Up ks.length 0 ls) (hl : rss.length < 20) (hp : pas.length < 100000) (q : ∀ H', KP n pp ks (rss ++ [ls]) (pas ++ [rss]) H' -> Fm [n, pp] H H' -> Q (.int rss.length) H') : wE (Zbg [.ref n, Zan ls] H) Q := by
 have h8 := m.h8
 have ne := m.ne
 refine Zcf rfl ?_
 show wS (Za6 [some (.ref n), some (Zan ls)] H) _
 unfold Za6
 refine w_seq (w_if ?_)
 fail "g"
 refine Zc7 (w_var rfl ⟨n, _, rfl, m.g, _, rfl, ?_⟩)
 fail "g"
 refine Znm (by omega) u ?_
 fail "g"
 refine w_if (w_tof (w_op (w_cb (w_acons (Zc7 (w_var rfl ⟨n, _, rfl, m.g, _, rfl, ?_⟩))))))
 unfold k_MOST_ROWS
 fail "g"
 refine w_bF (by simp; omega) ?_
 fail "g"
 refine Zc7 (w_var rfl ⟨n, _, rfl, m.g, _, rfl, ⟨isl m.p, ?_⟩⟩)
 fail "g"
 refine Zc7 (w_var rfl ⟨n, _, rfl, m.g, _, rfl, ?_⟩)
 fail "g"
 refine Zg3 m.p (by simp; omega) ?_
 fail "g"
 have l1 : n < H.length := (List.getElem?_eq_some_iff.mp m.g).1
 have l2 : pp < H.length := (List.getElem?_eq_some_iff.mp m.p).1
 have ep : H.set pp (.lst (pas.map Ze7 ++ [Ze7 rss])) = H.set pp (.lst ((pas ++ [rss]).map Ze7)) := by simp
 have g1 : (H.set pp (.lst (pas.map Ze7 ++ [Ze7 rss])))[n]? = some (Zhs ks rss pp) := by rw [List.getElem?_set_ne (Ne.symm ne)]; exact m.g
 have lr : (rss.map Zan).length ≤ 20 := by simp; omega
 refine Zjc (w_op (Zc7 (w_var rfl ⟨n, _, rfl, g1, _, rfl, ?_⟩)))
 fail "g"
 refine ⟨n, _, rfl, g1, by simp, ?_⟩
 fail "g"
 refine Zc7 (w_var rfl ⟨n, _, rfl, List.getElem?_set_self (by simpa using l1), _, rfl, ?_⟩)
 fail "g"
 have e1 : ((rss.map Zan ++ [Zan ls]).length : Int) - 1 = rss.length := by simp
 rw [e1]
 have e2 := m.set (rss' := rss ++ [ls]) (pas' := pas ++ [rss]) ⟨by simp; omega, fun y hy => (List.mem_append.mp hy).elim (m.r.2 y) fun h => by simp at h; subst h; exact u⟩ (fun y hy => (List.mem_append.mp hy).elim (m.ha y) fun h => by simp at h; subst h; exact m.r) (by simp; omega)
 refine q _ ?_ ((Fm.set (by simp)).trans (.set (by simp)))
 rw [ep]
 have e3 : DO.obj "Keeper" (Zs5 "rows" (.tup (rss.map Zan ++ [Zan ls])) [("kinds", .tup ks), ("rows", .tup (rss.map Zan)), ("past", .ref pp)]) = Zhs ks (rss ++ [ls]) pp := by
  unfold Zhs Ze7
  rw [List.map_append]
  rfl
 show KP _ _ _ _ _ (List.set _ n (DO.obj "Keeper" (Zs5 "rows" (.tup (rss.map Zan ++ [Zan ls])) [("kinds", .tup ks), ("rows", .tup (rss.map Zan)), ("past", .ref pp)])))
 rw [e3]
 exact e2
noncomputable def Zon (k : Nat) : D -> Bool
 | .int i => decide (0 ≤ i) && decide (i < k)
 | _ => false
theorem Zmf {d : D} {S : List Nat} {k kk ww : Nat} (h : T S H kk ww d) (hk : kk ≤ 30) (q : Q (.bl (Zon k d)) H) : wE (Zc3 [d, .int k] H) Q := by
 refine Zcf rfl ?_
 show wS (Zcb [some d, some (.int k)] H) _
 unfold Zcb
 fail "g"
 refine Zpx h hk ?_
 cases d with
 | int i =>
  fail "g"
  refine ⟨fun h => ?_, fun h => ?_⟩
  ·fail "g"
   simp only [Zon, h, Bool.true_and] at q
   exact q
  ·simp only [Zon, h, Bool.false_and] at q
   fail "g"
   exact q
 | _ =>
  fail "g"
  exact q
theorem Zjv {α : Type} (xs : List α) (i : Nat) : xs.take i ++ xs.drop (i + 1) = xs.eraseIdx i := by rw [List.eraseIdx_eq_take_drop_succ]
theorem Zvi {i : Nat} (m : KP n pp ks rss pas H) (hi : i < rss.length) (hp : pas.length < 100000) (q : ∀ H', KP n pp ks (rss.eraseIdx i) (pas ++ [rss]) H' -> Fm [n, pp] H H' -> Q .non H') : wE (Zb0 [.ref n, .int i] H) Q := by
 have h8 := m.h8
 have ne := m.ne
 have l20 := m.r.1
 refine Zcf rfl ?_
 show wS (Zb2 [some (.ref n), some (.int i)] H) _
 unfold Zb2
 refine w_seq (w_if ?_)
 fail "g"
 refine Zc7 (w_var rfl ⟨n, _, rfl, m.g, _, rfl, ?_⟩)
 fail "g"
 rw [List.length_map]
 refine Zmf (T.int (S := []) (k := 0) (by omega) (by omega)) (by omega) ?_
 rw [show Zon rss.length (.int i) = true by simp [Zon]; omega]
 fail "g"
 refine Zc7 (w_var rfl ⟨n, _, rfl, m.g, _, rfl, ⟨isl m.p, ?_⟩⟩)
 fail "g"
 refine Zc7 (w_var rfl ⟨n, _, rfl, m.g, _, rfl, ?_⟩)
 fail "g"
 refine Zg3 m.p (by simp; omega) ?_
 fail "g"
 have l1 : n < H.length := (List.getElem?_eq_some_iff.mp m.g).1
 have ep : H.set pp (.lst (pas.map Ze7 ++ [Ze7 rss])) = H.set pp (.lst ((pas ++ [rss]).map Ze7)) := by simp
 have g1 : (H.set pp (.lst (pas.map Ze7 ++ [Ze7 rss])))[n]? = some (Zhs ks rss pp) := by rw [List.getElem?_set_ne (Ne.symm ne)]; exact m.g
 have lr : (rss.map Zan).length ≤ 20 := by simp; omega
 refine Zjc (w_op (w_sl (Zc7 (w_var rfl ⟨n, _, rfl, g1, _, rfl, ?_⟩))))
 fail "g"
 refine Zc7 (w_var rfl ⟨n, _, rfl, g1, _, rfl, ?_⟩)
 fail "g"
 refine ⟨n, _, rfl, g1, by simp, ?_⟩
 fail "g"
 have em : (rss.map Zan).take i ++ (rss.map Zan).drop (i + 1) = (rss.eraseIdx i).map Zan := by rw [← List.map_take, ← List.map_drop, ← List.map_append, Zjv]
 rw [em, ep]
 refine q _ (m.set ⟨Nat.le_trans (List.length_eraseIdx_le _ _) l20, fun y hy => m.r.2 y (List.mem_of_mem_eraseIdx hy)⟩ (fun y hy => (List.mem_append.mp hy).elim (m.ha y) fun h => by simp at h; subst h; exact m.r) (by simp; omega)) ((Fm.set (by simp)).trans (.set (by simp)))
theorem Zye {σ : SD} {g : D -> List D -> HD -> Option (D × HD)} {fo : EF} (h : wE (fo σ H) fun o H1 => Zkh o H1 = true ∧ wE (g o [] H1) Q) : wE (Yai g fo σ H) Q := by
 obtain ⟨o, H1, e1, i, d, H3, e3, q⟩ := h
 exact ⟨d, H3, by unfold Yai; rw [e1]; simp only [Zb]; rw [if_pos i]; exact e3, q⟩
theorem Zvf {n : Nat} {xs : List D} {d : D} (g : H[n]? = some (.lst (xs ++ [d]))) (q : Q d (H.set n (.lst xs))) : wE (Zow (.ref n) [] H) Q := ⟨_, _, by simp [Zow, g], q⟩
theorem Zpu {r : List (List Int)} (m : KP n pp ks rss (pas ++ [r]) H) (q : ∀ H', KP n pp ks r pas H' -> Fm [n, pp] H H' -> Q .non H') : wE (Zb5 [.ref n] H) Q := by
 have ne := m.ne
 have lp := m.lp
 refine Zcf rfl ?_
 show wS (Zbj [some (.ref n)] H) _
 unfold Zbj
 refine w_seq (w_if (w_tof (w_op (w_cb (w_acons (Zc7 (w_var rfl ⟨n, _, rfl, m.g, _, rfl, ?_⟩)))))))
 fail "g"
 refine w_lenR m.p ?_
 fail "g"
 refine w_bF (by simp; omega) ?_
 have p1 := m.p
 rw [List.map_append] at p1
 have ho : OkR ks.length r := m.ha r (by simp)
 have g1 : (H.set pp (.lst (pas.map Ze7)))[n]? = some (Zhs ks rss pp) := by rw [List.getElem?_set_ne (Ne.symm ne)]; exact m.g
 refine w_snil (w_kn (w_seq (Zjc (Zye (Zc7 (w_var rfl ⟨n, _, rfl, m.g, _, rfl, ⟨isl m.p, Zvf p1 ?_⟩⟩))))))
 refine w_var rfl ⟨n, _, rfl, g1, by simp, ?_⟩
 fail "g"
 exact q _ (m.set ho (fun y hy => m.ha y (by simp [hy])) (by simp at lp; omega)) ((Fm.set (by simp)).trans (.set (by simp)))
theorem Zz1 {a N : Nat} {ds : List D} {b : XFs} (hl : ds.length = a) (h : b (ds.map some ++ List.replicate (N - ds.length) none) H = none) : Zl6 a N b ds H = none := by
 unfold Zl6
 rw [if_pos hl]; exact h
theorem Yak {d : D} (m : KP n pp ks rss pas H) (h : ∀ Q : D -> HD -> Prop, Q (.bl false) H -> wE (Zc2 [.int ks.length, d] H) Q) : Zbg [.ref n, d] H = none ∧ wH (Zay [.ref n, d] H) fun H' => H' = H := by
 constructor
 ·refine Zst rfl ?_
  show Za6 [some (.ref n), some d] H = none
  unfold Za6
  refine Zg1 (Zup ?_)
  fail "g"
  refine Zc7 (w_var rfl ⟨n, _, rfl, m.g, _, rfl, ?_⟩)
  fail "g"
  refine h _ ?_
  fail "g"
  exact Zuj
 ·refine Zmw rfl ?_
  show wH (Zap [some (.ref n), some d] H) _
  unfold Zap
  refine x_if ?_
  fail "g"
  refine Zc7 (w_var rfl ⟨n, _, rfl, m.g, _, rfl, ?_⟩)
  fail "g"
  refine h _ ?_
  fail "g"
  refine ⟨rfl, Zka ?_⟩
  fail "g"
  rfl
theorem Zz4 {ls : List Int} (m : KP n pp ks rss pas H) (u : Up ks.length 0 ls) (hl : rss.length = 20) : Zbg [.ref n, Zan ls] H = none ∧ Zay [.ref n, Zan ls] H = none ∧ wH (Zbb [.ref n, Zan ls] H) fun H' => H' = H := by
 have h8 := m.h8
 refine ⟨?_, ?_, ?_⟩
 ·refine Zst rfl ?_
  show Za6 [some (.ref n), some (Zan ls)] H = none
  unfold Za6
  refine Zzf (w_if ?_)
  fail "g"
  refine Zc7 (w_var rfl ⟨n, _, rfl, m.g, _, rfl, ?_⟩)
  fail "g"
  refine Znm (by omega) u ?_
  fail "g"
  refine Zg1 (Zup (w_tof (w_op (w_cb (w_acons (Zc7 (w_var rfl ⟨n, _, rfl, m.g, _, rfl, ?_⟩)))))))
  unfold k_MOST_ROWS
  fail "g"
  rw [List.length_map, hl]
  exact ⟨fun _ => Zuj, fun z => by simp at z⟩
 ·refine Zz1 rfl ?_
  show Zap [some (.ref n), some (Zan ls)] H = none
  unfold Zap
  refine x_ifN ?_
  fail "g"
  refine Zc7 (w_var rfl ⟨n, _, rfl, m.g, _, rfl, ?_⟩)
  fail "g"
  refine Znm (by omega) u ?_
  fail "g"
  rfl
 ·refine Zmw rfl ?_
  show wH (Zax [some (.ref n), some (Zan ls)] H) _
  unfold Zax
  refine x_seq (w_if ?_)
  fail "g"
  refine Zc7 (w_var rfl ⟨n, _, rfl, m.g, _, rfl, ?_⟩)
  fail "g"
  refine Znm (by omega) u ?_
  fail "g"
  refine x_if (w_tof (w_op (w_cb (w_acons (Zc7 (w_var rfl ⟨n, _, rfl, m.g, _, rfl, ?_⟩))))))
  unfold k_MOST_ROWS
  fail "g"
  rw [List.length_map, hl]
  exact ⟨by decide, Zka ⟨_, H, rfl, rfl⟩⟩
theorem Zzr {d : D} {S : List Nat} {kk ww : Nat} (m : KP n pp ks rss pas H) (h : T S H kk ww d) (hk : kk ≤ 30) (hf : Zon rss.length d = false) : Zb0 [.ref n, d] H = none ∧ wH (Zbs [.ref n, d] H) fun H' => H' = H := by
 constructor
 ·refine Zst rfl ?_
  show Zb2 [some (.ref n), some d] H = none
  unfold Zb2
  refine Zg1 (Zup ?_)
  fail "g"
  refine Zc7 (w_var rfl ⟨n, _, rfl, m.g, _, rfl, ?_⟩)
  fail "g"
  rw [List.length_map]
  refine Zmf h hk ?_
  rw [hf]
  fail "g"
  exact Zuj
 ·refine Zmw rfl ?_
  show wH (Za2 [some (.ref n), some d] H) _
  unfold Za2
  refine x_if ?_
  fail "g"
  refine Zc7 (w_var rfl ⟨n, _, rfl, m.g, _, rfl, ?_⟩)
  fail "g"
  rw [List.length_map]
  refine Zmf h hk ?_
  rw [hf]
  fail "g"
  refine ⟨rfl, Zka ?_⟩
  fail "g"
  rfl
theorem Zv5 (m : KP n pp ks rss [] H) : Zb5 [.ref n] H = none ∧ wH (Zb7 [.ref n] H) fun H' => H' = H := by
 constructor
 ·refine Zst rfl ?_
  show Zbj [some (.ref n)] H = none
  unfold Zbj
  refine Zg1 (Zup (w_tof (w_op (w_cb (w_acons (Zc7 (w_var rfl ⟨n, _, rfl, m.g, _, rfl, ?_⟩)))))))
  fail "g"
  refine w_lenR m.p ?_
  fail "g"
  exact Zuj
 ·refine Zmw rfl ?_
  show wH (Zaw [some (.ref n)] H) _
  unfold Zaw
  refine x_if (w_tof (w_op (w_cb (w_acons (Zc7 (w_var rfl ⟨n, _, rfl, m.g, _, rfl, ?_⟩))))))
  fail "g"
  refine w_lenR m.p ?_
  fail "g"
  refine ⟨rfl, Zka ?_⟩
  fail "g"
  rfl
theorem Zqj {bs : List Bool} {p : Nat} (g : H[p]? = some (.lst (bs.map .bl))) : DL.dat (.ref p) H = some (.list (bs.map .bool)) := Fines.dat (Zi8 bs) (by omega) g
theorem Zqw {p : Nat} {bs : List Bool} {b : Bool} (g : H[p]? = some (.lst (bs.map .bl))) (q : Q (.int (bs.countP (· == b) : Nat)) H) : wE (Zgc (.ref p) [.bl b] H) Q := by
 refine ⟨_, _, ?_, q⟩
 unfold Zgc
 simp only [g]
 rw [Zqj g, Zb, Fine.dat (Fine.bl b) (by omega), Zb]
 simp only [Ze3, Option.map_some, List.countP_map]
 congr 4
theorem Zws {p : Nat} {bs : List Bool} {b : Bool} {j : Nat} (g : H[p]? = some (.lst (bs.map .bl))) (hj : bs.findIdx? (· == b) = some j) (h : j ≤ 1000) (q : Q (.int (j : Nat)) H) : wE (Zga (.ref p) [.bl b] H) Q := by
 refine ⟨_, _, ?_, q⟩
 unfold Zga
 dsimp only
 rw [g]
 dsimp only
 rw [Zqj g, Zb, Fine.dat (Fine.bl b) (by omega), Zb]
 show (Ze3 (PyData.list _)).bind _ = _
 rw [show Ze3 (PyData.list (bs.map PyData.bool)) = some (bs.map PyData.bool) from rfl, Zb, List.findIdx?_map]
 have e : (fun z => PyData.eqv z (.bool b)) ∘ PyData.bool = fun c => c == b := by
  funext c
  simp [PyData.eqv]
 rw [e, hj, Zb, if_pos (by omega)]
theorem Zh4 {p r : Nat} {xs ys : List D} (h1 : H[p]? = some (.lst xs)) (h2 : H[r]? = some (.lst ys)) (hl : xs.length + ys.length ≤ 100000) (q : Q (.ref H.length) (H ++ [.lst (xs ++ ys)])) : wE (Zbn (.ref p) (.ref r) H) Q := ⟨_, _, by
 have z : (xs ++ ys).length ≤ sizeLine := Zej (by simp; omega)
 simp only [Zbn, h1, h2]
 exact if_pos z, q⟩
noncomputable def ksu : SF := (Zaf (Zbu 5 (Zdt (Zaa (Zl3 [("NoRow", true), ("TooMany", false), ("NoBack", false)] (Zac 4)) (Zaa (Zl3 [("NoRow", false), ("TooMany", true), ("NoBack", false)] (Zac 4)) (Zaa (Zl3 [("NoRow", false), ("TooMany", false), ("NoBack", true)] (Zac 4)) (Zaa (eNo (Zl3 [("NoRow", true), ("TooMany", true), ("NoBack", true)] (Zac 4))) Zae))))))
 (Zaf (Zcy (eLM Zce (Zac 5) (Zaa (Zl3 [("NoRow", false), ("TooMany", false), ("NoBack", false)] (Zac 4)) Zae)))
 (Zaf (Zbu 3 (eOp Zbn (eCB strD (Zaa (eLM Zgc (Zac 5) (Zaa (eC (.bl true)) Zae)) Zae)) (eOp ixD (Zdt (Zaa (eC (.str "row")) (Zaa (eC (.str "many")) (Zaa (eC (.str "back")) (Zaa (eC (.str "odd")) (Zaa (eC (.str "odd")) Zae)))))) (eOp Zdq (eLM Zga (eOp Zbn (Zac 5) (Zdt (Zaa (eC (.bl true)) Zae))) (Zaa (eC (.bl true)) Zae)) (eC (.int 5))))))
 Zah)))
theorem Zql {σ : SD} {f : EF} (h : f σ H = none) : Zcy f σ H = none := by unfold Zcy; rw [h]; rfl
theorem Zz2 {σ : SD} {a b : XTs} {P : Str -> HD -> Prop} (h : wXT (a σ H) P) : wXT (Zw8 a b σ H) P := by
 obtain ⟨c, H1, e, q⟩ := h
 exact ⟨c, H1, by unfold Zw8; rw [e], q⟩
theorem Yae {σ : SD} {a b : XTs} {P : Str -> HD -> Prop} (h0 : a σ H = none) (h : wXT (b σ H) P) : wXT (Zw8 a b σ H) P := by
 obtain ⟨c, H1, e, q⟩ := h
 exact ⟨c, H1, by unfold Zw8; rw [h0]; exact e, q⟩
theorem Zty {σ : SD} {cn m xn : Str} {fo : EF} {fa : AF} {k : Nat} {F : XFF} (h : wE (fo σ H) fun d H1 => ∃ n fs, d = .ref n ∧ H1[n]? = some (.obj cn fs) ∧ fs.lookup m = none ∧ wA (fa σ H1) fun ds H2 => ds.length + 1 = k ∧ F (.ref n :: ds) H2 = none) : Zib cn m k xn F fo fa σ H = none := by
 obtain ⟨d, H1, e, n, fs, rfl, g, l, ds, H2, e2, hl, e3⟩ := h
 unfold Zib
 rw [e]; simp only [Zb]; rw [g]; simp only; rw [if_pos ⟨trivial, l⟩, e2]; simp only [Zb]; rw [if_pos hl, e3]; rfl
noncomputable def KR (cn res : Str) : Prop := (cn = "NoRow" ∧ res = "1row") ∨ (cn = "TooMany" ∧ res = "1many") ∨ (cn = "NoBack" ∧ res = "1back")
theorem add1 {a b c : Str} (h : a ++ b = c) (hl : a.length + b.length ≤ 100) : Zbn (.str a) (.str b) H = some (.str c, H) := by
 subst h
 have : a.length + b.length ≤ sizeLine := Zej (by omega)
 simp [Zbn, this]
theorem Zx1 {p : Nat} {cn res wd : Str} {d : D} {R : FD → SD → HD → Prop} (hc : KR cn res) (g : H[p]? = some (.exc cn)) (q : ∀ y5 H', Fm [] H H' → R .nx [some (.ref n), some (.str wd), some d, some (.str res), some (.ref p), y5] H') : wS (ksu [some (.ref n), some (.str wd), some d, some (.str ""), some (.ref p), none] H) R := by
 unfold ksu
 have two : ∀ {u : DO} {v : DO}, (H ++ [u]).set H.length v = H ++ [v] := fun {u v} => by simp
 rcases hc with ⟨rfl, rfl⟩ | ⟨rfl, rfl⟩ | ⟨rfl, rfl⟩
 ·fail "g"
  refine Zfk (w_var rfl ⟨p, _, _, rfl, g, rfl, ?_⟩)
  fail "g"
  refine Zfk (w_var rfl ⟨p, _, _, rfl, g, rfl, ?_⟩)
  fail "g"
  refine Zfk (w_var rfl ⟨p, _, _, rfl, g, rfl, ?_⟩)
  fail "g"
  refine Zfk (w_var rfl ⟨p, _, _, rfl, g, rfl, ?_⟩)
  fail "g"
  refine ⟨isl last, ?_⟩
  fail "g"
  refine Zfk (w_var rfl ⟨p, _, _, rfl, appL g, rfl, ?_⟩)
  fail "g"
  refine Zg3 last (by simp) ?_
  rw [two]
  fail "g"
  refine ⟨isl last, ?_⟩
  fail "g"
  refine Zqw (bs := [true, false, false, false, false]) last ?_
  fail "g"
  refine ⟨.str "1", _, rfl, ?_⟩
  fail "g"
  refine Zh4 (appL (appL last)) last (by simp) ?_
  refine ⟨isl last, ?_⟩
  fail "g"
  refine Zws (bs := [true, false, false, false, false, true]) (j := 0) last rfl (by omega) ?_
  fail "g"
  refine ⟨.str "1row", _, add1 rfl (by decide), ?_⟩
  fail "g"
  exact q _ _ ((((Fm.app _).trans (.app _)).trans (.app _)).trans (.app _))
 ·fail "g"
  refine Zfk (w_var rfl ⟨p, _, _, rfl, g, rfl, ?_⟩)
  fail "g"
  refine Zfk (w_var rfl ⟨p, _, _, rfl, g, rfl, ?_⟩)
  fail "g"
  refine Zfk (w_var rfl ⟨p, _, _, rfl, g, rfl, ?_⟩)
  fail "g"
  refine Zfk (w_var rfl ⟨p, _, _, rfl, g, rfl, ?_⟩)
  fail "g"
  refine ⟨isl last, ?_⟩
  fail "g"
  refine Zfk (w_var rfl ⟨p, _, _, rfl, appL g, rfl, ?_⟩)
  fail "g"
  refine Zg3 last (by simp) ?_
  rw [two]
  fail "g"
  refine ⟨isl last, ?_⟩
  fail "g"
  refine Zqw (bs := [false, true, false, false, false]) last ?_
  fail "g"
  refine ⟨.str "1", _, rfl, ?_⟩
  fail "g"
  refine Zh4 (appL (appL last)) last (by simp) ?_
  refine ⟨isl last, ?_⟩
  fail "g"
  refine Zws (bs := [false, true, false, false, false, true]) (j := 1) last rfl (by omega) ?_
  fail "g"
  refine ⟨.str "1many", _, add1 rfl (by decide), ?_⟩
  fail "g"
  exact q _ _ ((((Fm.app _).trans (.app _)).trans (.app _)).trans (.app _))
 ·fail "g"
  refine Zfk (w_var rfl ⟨p, _, _, rfl, g, rfl, ?_⟩)
  fail "g"
  refine Zfk (w_var rfl ⟨p, _, _, rfl, g, rfl, ?_⟩)
  fail "g"
  refine Zfk (w_var rfl ⟨p, _, _, rfl, g, rfl, ?_⟩)
  fail "g"
  refine Zfk (w_var rfl ⟨p, _, _, rfl, g, rfl, ?_⟩)
  fail "g"
  refine ⟨isl last, ?_⟩
  fail "g"
  refine Zfk (w_var rfl ⟨p, _, _, rfl, appL g, rfl, ?_⟩)
  fail "g"
  refine Zg3 last (by simp) ?_
  rw [two]
  fail "g"
  refine ⟨isl last, ?_⟩
  fail "g"
  refine Zqw (bs := [false, false, true, false, false]) last ?_
  fail "g"
  refine ⟨.str "1", _, rfl, ?_⟩
  fail "g"
  refine Zh4 (appL (appL last)) last (by simp) ?_
  refine ⟨isl last, ?_⟩
  fail "g"
  refine Zws (bs := [false, false, true, false, false, true]) (j := 2) last rfl (by omega) ?_
  fail "g"
  refine ⟨.str "1back", _, add1 rfl (by decide), ?_⟩
  fail "g"
  exact q _ _ ((((Fm.app _).trans (.app _)).trans (.app _)).trans (.app _))
theorem Zqu {d : D} {cn res : Str} (m : KP n pp ks rss pas H) (hc : KR cn res) (h0 : Zbg [.ref n, d] H = none) (hx : (cn = "NoRow" ∧ wH (Zay [.ref n, d] H) fun H' => H' = H) ∨ (cn = "TooMany" ∧ Zay [.ref n, d] H = none ∧ wH (Zbb [.ref n, d] H) fun H' => H' = H))
  (q : ∀ H', Fm [] H H' → Q (.str res) H') : wE (Zc1 [.ref n, .str "put", d] H) Q := by
 refine Zcf rfl ?_
 show wS (Zb6 [some (.ref n), some (.str "put"), some d, none, none, none] H) _
 unfold Zb6
 fail "g"
 refine Zsi (Zg1 (Zup ?_)) (by simp) (Zrz ?_)
 ·fail "g"
  refine Zg1 (Zql (Zrw (w_var rfl ⟨n, _, rfl, m.g, rfl, ?_⟩)))
  fail "g"
  exact ⟨rfl, h0⟩
 ·fail "g"
  have fin : ∀ H2, H2 = H → wS (ksu [some (.ref n), some (.str "put"), some d, some (.str ""), some (.ref H2.length), none] (H2 ++ [.exc cn])) (Ztr (fun σ3 H3 => Ztr (fun σ1 H1 => wS (Zaf (Zbh (Zac 3)) Zah σ1 H1) (fin Q)) (fin Q) .nx (σ3.set 4 none) H3) fun _ _ _ => False) := fun H2 e => by
   subst e
   refine Zx1 hc last fun y5 H' x => ?_
   fail "g"
   exact q _ ((Fm.app _).trans x)
  rcases hx with ⟨rfl, H1, e1, e2⟩ | ⟨rfl, e0, H1, e1, e2⟩
  ·refine Zz2 (Zj2 (w_var rfl ⟨n, _, rfl, m.g, rfl, ?_⟩))
   fail "g"
   exact ⟨rfl, H1, e1, fin H1 e2⟩
  ·refine Yae (Zty (w_var rfl ⟨n, _, rfl, m.g, rfl, ?_⟩)) (Zj2 (w_var rfl ⟨n, _, rfl, m.g, rfl, ?_⟩))
   ·fail "g"
    exact ⟨rfl, e0⟩
   ·fail "g"
    exact ⟨rfl, H1, e1, fin H1 e2⟩
theorem Zv3 {d : D} (m : KP n pp ks rss pas H) (h : Zb0 [.ref n, d] H = none ∧ wH (Zbs [.ref n, d] H) fun H' => H' = H)
  (q : ∀ H', Fm [] H H' → Q (.str "1row") H') : wE (Zc1 [.ref n, .str "out", d] H) Q := by
 refine Zcf rfl ?_
 show wS (Zb6 [some (.ref n), some (.str "out"), some d, none, none, none] H) _
 unfold Zb6
 fail "g"
 refine Zsi (Zg1 (Zup ?_)) (by simp) (Zrz ?_)
 ·fail "g"
  refine Zg1 (Zup ?_)
  fail "g"
  refine Zg1 (Zql (Zrw (w_var rfl ⟨n, _, rfl, m.g, rfl, ?_⟩)))
  fail "g"
  exact ⟨rfl, h.1⟩
 ·fail "g"
  refine Zrz ?_
  fail "g"
  refine Zj2 (w_var rfl ⟨n, _, rfl, m.g, rfl, ?_⟩)
  fail "g"
  obtain ⟨H1, e1, rfl⟩ := h.2
  refine ⟨rfl, H1, e1, ?_⟩
  refine Zx1 (.inl ⟨rfl, rfl⟩) last fun y5 H' x => ?_
  fail "g"
  exact q _ ((Fm.app _).trans x)
theorem Zwi {d : D} (m : KP n pp ks rss [] H) (q : ∀ H', Fm [] H H' → Q (.str "1back") H') : wE (Zc1 [.ref n, .str "back", d] H) Q := by
 refine Zcf rfl ?_
 show wS (Zb6 [some (.ref n), some (.str "back"), some d, none, none, none] H) _
 unfold Zb6
 have h := Zv5 m
 fail "g"
 refine Zsi (Zg1 (Zup ?_)) (by simp) (Zrz ?_)
 ·fail "g"
  refine Zg1 (Zup ?_)
  fail "g"
  exact Zg1 (Zql (Zrw (w_var rfl ⟨n, _, rfl, m.g, rfl, w_anil ⟨rfl, h.1⟩⟩)))
 ·fail "g"
  refine Zrz ?_
  fail "g"
  refine Zj2 (w_var rfl ⟨n, _, rfl, m.g, rfl, w_anil ?_⟩)
  obtain ⟨H1, e1, rfl⟩ := h.2
  refine ⟨rfl, H1, e1, ?_⟩
  refine Zx1 (.inr (.inr ⟨rfl, rfl⟩)) last fun y5 H' x => ?_
  fail "g"
  exact q _ ((Fm.app _).trans x)
theorem Zhl {wd : Str} {d : D} {S : List Nat} {kk ww : Nat} (m : KP n pp ks rss pas H) (h : T S H kk ww d) (hk : kk ≤ 30) (hw : ww ≤ 390000) (hd : (wd = "put" ∧ ∀ Q : D → HD → Prop, Q (.bl false) H → wE (Zc2 [.int ks.length, d] H) Q) ∨ (wd = "out" ∧ Zon rss.length d = false)) (q : ∀ H', Fm [] H H' → Q (.bl true) H') : wE (Za1 [.ref n, .str wd, d] H) Q := by
 obtain ⟨t, ht⟩ := h.rep hw hk
 refine Zcf rfl ?_
 show wS (Zbf [some (.ref n), some (.str wd), some d, none] H) _
 unfold Zbf
 fail "g"
 refine Zss (ht H .refl) ?_
 fail "g"
 have sub : ∀ {H'}, Fm [] H H' -> Fm S H H' := fun x => x.sub (by simp)
 rcases hd with ⟨rfl, hd⟩ | ⟨rfl, hd⟩
 ·have z := Yak m hd
  refine Zqu m (.inl ⟨rfl, rfl⟩) z.1 (.inl ⟨rfl, z.2⟩) fun H1 x1 => ?_
  fail "g"
  refine Zss (ht H1 (sub x1)) ?_
  fail "g"
  simp only [beq_self_eq_true]
  exact q H1 x1
 ·refine Zv3 m (Zzr m h hk hd) fun H1 x1 => ?_
  fail "g"
  refine Zss (ht H1 (sub x1)) ?_
  fail "g"
  simp only [beq_self_eq_true]
  exact q H1 x1
variable {H : HD} {Q : D -> HD -> Prop} {k : Nat}
theorem Zf0 {m : Int} {d : D} {post : List D} (h : ∀ i, d = .int i -> Za5 i ≤ 0 ∨ m < Za5 i) : ∀ (pre : List D) (last : Int), 0 ≤ last -> Zi0 m last (pre ++ d :: post) = false
 | [], last, l0 => by
  cases d with
  | int i =>
   rw [List.nil_append, Zi0]
   rcases h i rfl with h | h
   ·rw [decide_eq_false (show ¬ last < Za5 i by omega)]; rfl
   ·rw [decide_eq_false (show ¬ Za5 i ≤ m by omega)]; simp
  | _ => rfl
 | x :: pre, last, l0 => by
  cases x with
  | int i =>
   rw [List.cons_append, Zi0, Zf0 h pre (Za5 i) (by unfold Za5; split <;> omega)]; simp
  | _ => rfl
theorem Zd3 {m a b : Int} {post : List D} (h : Za5 b ≤ Za5 a) : ∀ (pre : List D) (last : Int), Zi0 m last (pre ++ .int a :: .int b :: post) = false
 | [], last => by rw [List.nil_append, Zi0, Zi0, decide_eq_false (show ¬ Za5 a < Za5 b by omega)]; simp
 | x :: pre, last => by
  cases x with
  | int i => rw [List.cons_append, Zi0, Zd3 h pre]; simp
  | _ => rfl
structure Bad (k : Nat) (H : HD) (d : D) : Prop where
 t : T [] H 3 5000 d
 no : ∀ ds, d = .tup ds -> Zi0 k 0 ds = false
theorem Bad.keep {H' : HD} {d : D} (b : Bad k H d) (x : Fm [] H H') : Bad k H' d := ⟨b.t.fm x, b.no⟩
theorem Bad.row {d : D} (b : Bad k H d) : ∀ Q : D -> HD -> Prop, Q (.bl false) H -> wE (Zc2 [.int k, d] H) Q := fun Q q => by
 by_cases h : ∃ ds, d = .tup ds
 ·obtain ⟨ds, rfl⟩ := h
  have t : T [] H (3 + 1) 5000 (.tup ds) := b.t.le (by omega) (by omega)
  exact Zqe t.parts (by omega) (by rw [b.no ds rfl]; exact q)
 ·exact Zue b.t (by omega) (fun ds e => h ⟨ds, e⟩) q
theorem Zxk : (PyData.shown (.int (10 ^ 29))).length ≤ 40 ∧ (PyData.int (10 ^ 29)).showable = true ∧ (PyData.int (10 ^ 29)).weight ≤ 100 := by decide +kernel
theorem T.big29 {S : List Nat} {j : Nat} : T S H j 100 (.int (10 ^ 29)) := by
 have h := Zxk
 exact ⟨.int (10 ^ 29), fun H' _ m _ => Zia H' m _, rfl, h.2.1, Nat.zero_le _, by simp only [PyData.leavesShort]; exact decide_eq_true h.1, h.2.2⟩
theorem w_pow (n : Nat) (hn : n ≤ 30) (q : Q (.int (10 ^ n)) H) : wE (Zsl (.int 10) (.int n) H) Q := WP.w_pow (by omega) (by omega) (by decide) (by simpa using q)
theorem T.one {S : List Nat} {j w : Nat} {d : D} (h : T S H j w d) : T S H (j + 1) (w + 1) (.tup [d]) := T.tup ((Ts.cons h (Ts.nil (w := 0))).le (Nat.le_refl _) (by omega))
theorem T.two {S : List Nat} {j w w' : Nat} {d d' : D} (h : T S H j w d) (h' : T S H j w' d') : T S H (j + 1) (w + w' + 2) (.tup [d, d']) := T.tup ((Ts.cons h (Ts.cons h' (Ts.nil (w := 0)))).le (Nat.le_refl _) (by omega))
noncomputable def Zul (k : Nat) (d : D) : Prop := ∀ i, d = .int i -> Za5 i ≤ 0 ∨ (k : Int) < Za5 i
theorem Znz {m : Int} : ∀ {x : Int} {r : List Int} {last : Int}, Up m last (x :: r) -> ∀ l ∈ x :: r, Za5 x ≤ Za5 l := fun {x r last} u l hl => by
 rcases List.mem_cons.mp hl with rfl | hl
 ·exact Int.le_refl _
 ·have h0 : 0 ≤ Za5 x := by unfold Za5; split <;> omega
  have := (Zlc r (Za5 x) h0 u.2.2 l hl).1
  omega
theorem Zm9 {ls : List Int} (q : Q (.int ls.length) H) : wE (Zdk [Zan ls] H) Q := by
 have := lenT (ls.map D.int) H
 rw [List.length_map] at this
 exact ⟨_, _, this, q⟩
noncomputable def bd3 : SF := (Zaf (sIf (tOf (eOp eqD (eOp Zdq (eOp ixD (Zac 1) (eC (.int 3))) (eC (.int 4))) (eC (.int 2)))) (Zaf (Zbh (eOp Zbn (eOp Zbn (eSl (Zac 2) Zcg (Zb4 (Zac 3))) (Zdg (Zaa (Zac 4) Zae))) (eSl (Zac 2) (Zb4 (eOp Zbn (Zac 3) (eC (.int 1)))) Zcg)))
 Zah) Zah)
 (Zaf (Zbh (eOp Zbn (eOp Zbn (eSl (Zac 2) Zcg (Zb4 (Zac 3))) (Zdg (Zaa (Zac 4) Zae))) (eSl (Zac 2) (Zb4 (Zac 3)) Zcg)))
 Zah))
noncomputable def bd2 : SF := (Zaf (sIf (tAn (tOf (eOp eqD (eOp Zdq (eOp ixD (Zac 1) (eC (.int 3))) (eC (.int 4))) (eC (.int 1)))) (tOf (eOp neD (Zac 2) (Zdg Zae)))) (Zaf (Zbh (eOp Zbn (eOp Zbn (eSl (Zac 2) Zcg (Zb4 (Zac 3))) (eSl (Zac 2) Zcg (Zb4 (eC (.int 1))))) (eSl (Zac 2) (Zb4 (Zac 3)) Zcg)))
 Zah) Zah)
 bd3)
theorem w_bd3 {p at_ : Nat} {ds ls : List Int} {o : D} (g : H[p]? = some (.lst (ds.map .int))) (hd : Zoq ds) (hl : 4 ≤ ds.length) (ll : ls.length ≤ 9) (tr : Ts [] H 2 400 (ls.map .int)) (to : T [] H 2 200 o) (bo : Zul k o)
  (fin : ∀ ds, Ts [] H 2 4000 ds -> Zi0 k 0 ds = false -> Q (.tup ds) H) : wS (bd3 [some (.int k), some (.ref p), some (Zan ls), some (.int at_), some o] H) (WP.fin Q) := by
 have t1 : Ts [] H 2 201 [o] := (Ts.cons to (Ts.nil (w := 0))).le (Nat.le_refl _) (by omega)
 have ml : (ls.map D.int).length ≤ 9 := by simpa using ll
 have lT : ∀ j : Nat, ((ls.map D.int).take j).length ≤ 9 := fun j => by simp; omega
 have lD : ∀ j : Nat, ((ls.map D.int).drop j).length ≤ 9 := fun j => by simp; omega
 unfold bd3
 fail "i"
 refine Zeh g hd (by omega) (by omega) fun r3 r30 _ => ?_
 fail "g"
 refine ⟨fun h => ?_, fun h => ?_⟩
 ·fail "g"
  refine w_slhi (xs := ls.map .int) ?_
  have := lT at_
  fail "g"
  refine w_sllo1 (xs := ls.map .int) ?_
  have := lD (at_ + 1)
  fail "g"
  refine fin _ ((Ts.app (Ts.app (Ts.take at_ tr) t1) (Ts.drop (at_ + 1) tr)).le (Nat.le_refl _) (by omega)) ?_
  rw [List.append_assoc]
  exact Zf0 bo _ 0 (by omega)
 ·fail "g"
  refine w_slhi (xs := ls.map .int) ?_
  have := lT at_
  fail "g"
  refine w_sllo (xs := ls.map .int) ?_
  have := lD at_
  fail "g"
  refine fin _ ((Ts.app (Ts.app (Ts.take at_ tr) t1) (Ts.drop at_ tr)).le (Nat.le_refl _) (by omega)) ?_
  rw [List.append_assoc]
  exact Zf0 bo _ 0 (by omega)
theorem w_bd2 {p at_ : Nat} {ds ls : List Int} {o : D} (g : H[p]? = some (.lst (ds.map .int))) (hd : Zoq ds) (hl : 4 ≤ ds.length) (ll : ls.length ≤ 9) (u : Up k 0 ls) (tr : Ts [] H 2 400 (ls.map .int)) (to : T [] H 2 200 o) (bo : Zul k o)
  (fin : ∀ ds, Ts [] H 2 4000 ds -> Zi0 k 0 ds = false -> Q (.tup ds) H) : wS (bd2 [some (.int k), some (.ref p), some (Zan ls), some (.int at_), some o] H) (WP.fin Q) := by
 have ml : (ls.map D.int).length ≤ 9 := by simpa using ll
 have lT : ∀ j : Nat, ((ls.map D.int).take j).length ≤ 9 := fun j => by simp; omega
 have lD : ∀ j : Nat, ((ls.map D.int).drop j).length ≤ 9 := fun j => by simp; omega
 have Zck := w_bd3 (at_ := at_) g hd hl ll tr to bo fin
 unfold bd2
 fail "i"
 refine Zeh g hd (by omega) (by omega) fun r3 r30 _ => ?_
 fail "g"
 refine ⟨fun h => ?_, fun h => ?_⟩
 ·fail "g"
  refine Zxd (Zh0 ls) (by omega) ?_
  cases ls with
  | nil => fail "g"; exact Zck
  | cons x r =>
   have l0 := lT at_
   have l1 := lT 1
   have l2 := lD at_
   fail "g"
   refine w_slhi (xs := (x :: r).map .int) ?_
   fail "g"
   refine w_slhi (xs := (x :: r).map .int) (k := 1) ?_
   fail "g"
   refine w_sllo (xs := (x :: r).map .int) ?_
   fail "g"
   refine w_addT (by rw [List.length_append]; omega) ?_
   fail "g"
   refine fin _ ((Ts.app (Ts.app (Ts.take at_ tr) (Ts.take 1 tr)) (Ts.drop at_ tr)).le (Nat.le_refl _) (by omega)) ?_
   have e1 : ((x :: r).map D.int).take 1 = [.int x] := rfl
   rw [e1]
   cases at_ with
   | zero => exact Zd3 (Int.le_refl _) [] 0
   | succ j =>
    by_cases hj : j < (x :: r).length
    ·have e2 : ((x :: r).map D.int).take (j + 1) = ((x :: r).map D.int).take j ++ [.int (x :: r)[j]] := by rw [List.take_add_one, List.getElem?_map, List.getElem?_eq_getElem hj]; rfl
     rw [e2]
     have := Znz u (x :: r)[j] (List.getElem_mem hj)
     have z := Zd3 (m := k) (a := (x :: r)[j]) (b := x) (post := ((x :: r).map D.int).drop (j + 1)) this (((x :: r).map D.int).take j) 0
     simpa using z
    ·have e2 : ((x :: r).map D.int).take (j + 1) = (x :: r).map D.int := List.take_of_length_le (by simp at hj ⊢; omega)
     rw [e2]
     obtain ⟨b, y, e3⟩ : ∃ b y, x :: r = b ++ [y] := ⟨_, _, (List.dropLast_concat_getLast (l := x :: r) (by simp)).symm⟩
     have hy := Znz u y (by rw [e3]; simp)
     have z := Zd3 (m := k) (a := y) (b := x) (post := ((x :: r).map D.int).drop (j + 1)) hy (b.map .int) 0
     rw [show (x :: r).map D.int = b.map .int ++ [.int y] by rw [e3]; simp] at z ⊢
     simpa using z
 ·fail "g"
  exact Zck
theorem Zi9 {p : Nat} {ds : List Int} (hk : k ≤ 8) (g : H[p]? = some (.lst (ds.map .int))) (hd : Zoq ds) (hl : 4 ≤ ds.length) (q : ∀ d H', Bad k H' d -> Fm [] H H' -> Q d H') : wE (Zbz [.int k, .ref p] H) Q := by
 refine Zcf rfl ?_
 show wS (Zbt [some (.int k), some (.ref p), none, none, none] H) _
 unfold Zbt
 fail "g"
 refine Zeh g hd (by omega) (by omega) fun r0 _ _ => ?_
 fail "g"
 refine Zki hk fun ls H1 u x1 => ?_
 have g1 := x1.lst (by simp) g
 have ll : ls.length ≤ 9 := by
  obtain ⟨ls', e, _, l9, _⟩ := Zu2 (show (k : Int) ≤ 8 by omega) u
  rw [Zrx e]; exact l9
 fail "g"
 refine Zeh g1 hd (by omega) (by omega) fun r1 r10 _ => ?_
 fail "g"
 refine Zm9 ?_
 fail "g"
 obtain ⟨at_, hat, lat⟩ : ∃ a : Nat, r1 % ((ls.length : Int) + 1) = a ∧ a ≤ ls.length := ⟨(r1 % ((ls.length : Int) + 1)).toNat, by have := Int.emod_nonneg r1 (show (ls.length : Int) + 1 ≠ 0 by omega); omega, by have := Int.emod_lt_of_pos r1 (show 0 < (ls.length : Int) + 1 by omega); omega⟩
 refine w_mod (by omega) ?_
 rw [hat]
 fail "g"
 refine w_pow 29 (by omega) ?_
 fail "g"
 have g2 : (H1 ++ [DO.lst [D.int 1]] ++ [DO.lst [D.int ((k : Int) + 1), .int (-1 - (k : Int)), .int 0, .bl true, .non, .str "1", .int (10 ^ 29), .tup [.int 1], .ref H1.length]])[p]? = some (.lst (ds.map .int)) := appL (appL g1)
 refine Zeh g2 hd (by omega) (by omega) fun r2 r20 _ => ?_
 fail "g"
 have gl : (H1 ++ [DO.lst [D.int 1]] ++ [DO.lst [D.int ((k : Int) + 1), .int (-1 - (k : Int)), .int 0, .bl true, .non, .str "1", .int (10 ^ 29), .tup [.int 1], .ref H1.length]])[H1.length]? = some (.lst [D.int 1]) := appL last
 have gL : (H1 ++ [DO.lst [D.int 1]] ++ [DO.lst [D.int ((k : Int) + 1), .int (-1 - (k : Int)), .int 0, .bl true, .non, .str "1", .int (10 ^ 29), .tup [.int 1], .ref H1.length]])[(H1 ++ [DO.lst [D.int 1]]).length]? = some (DO.lst [D.int ((k : Int) + 1), .int (-1 - (k : Int)), .int 0, .bl true, .non, .str "1", .int (10 ^ 29), .tup [.int 1], .ref H1.length]) := last
 have X2 : Fm [] H (H1 ++ [DO.lst [D.int 1]] ++ [DO.lst [D.int ((k : Int) + 1), .int (-1 - (k : Int)), .int 0, .bl true, .non, .str "1", .int (10 ^ 29), .tup [.int 1], .ref H1.length]]) := (x1.trans (.app _)).trans (.app _)
 generalize H1 ++ [DO.lst [D.int 1]] ++ [DO.lst [D.int ((k : Int) + 1), .int (-1 - (k : Int)), .int 0, .bl true, .non, .str "1", .int (10 ^ 29), .tup [.int 1], .ref H1.length]] = H2 at g2 gl gL X2 ⊢
 obtain ⟨o, ho, bo, to⟩ : ∃ o, atI [D.int ((k : Int) + 1), .int (-1 - (k : Int)), .int 0, .bl true, .non, .str "1", .int (10 ^ 29), .tup [.int 1], .ref H1.length] (r2 % 9) = some o ∧ Zul k o ∧ T [] H2 2 200 o := by
  have nb : ∀ d : D, (∀ i, d ≠ .int i) -> Zul k d := fun d h i e => absurd e (h i)
  rcases (show r2 % 9 = 0 ∨ r2 % 9 = 1 ∨ r2 % 9 = 2 ∨ r2 % 9 = 3 ∨ r2 % 9 = 4 ∨ r2 % 9 = 5 ∨ r2 % 9 = 6 ∨ r2 % 9 = 7 ∨ r2 % 9 = 8 by omega) with e | e | e | e | e | e | e | e | e <;> rw [e]
  ·exact ⟨_, rfl, fun i e => by cases e; right; unfold Za5; split <;> omega, (T.int (by omega) (by omega)).le (Nat.le_refl _) (by omega)⟩
  ·exact ⟨_, rfl, fun i e => by cases e; right; unfold Za5; split <;> omega, (T.int (by omega) (by omega)).le (Nat.le_refl _) (by omega)⟩
  ·exact ⟨_, rfl, fun i e => by cases e; left; decide, (T.int (by omega) (by omega)).le (Nat.le_refl _) (by omega)⟩
  ·exact ⟨_, rfl, nb _ (by rintro i ⟨⟩), T.bl.le (Nat.le_refl _) (by omega)⟩
  ·exact ⟨_, rfl, nb _ (by rintro i ⟨⟩), T.non.le (Nat.le_refl _) (by omega)⟩
  ·exact ⟨_, rfl, nb _ (by rintro i ⟨⟩), (T.str (by decide) (by decide) (by decide)).le (Nat.le_refl _) (by omega)⟩
  ·exact ⟨_, rfl, fun i e => by cases e; right; rw [show Za5 (10 ^ 29) = 100000000000000000000000000000 from rfl]; omega, T.big29.le (Nat.le_refl _) (by omega)⟩
  ·exact ⟨_, rfl, nb _ (by rintro i ⟨⟩), (T.one (T.int (k := 0) (by omega) (by omega))).le (by omega) (by omega)⟩
  ·exact ⟨_, rfl, nb _ (by rintro i ⟨⟩), (T.lst (by simp) gl ((Ts.cons (T.int (k := 0) (by omega) (by omega)) (Ts.nil (w := 0))))).le (by omega) (by omega)⟩
 refine w_ixR gL ho ?_
 have tr : Ts [] H2 2 400 (ls.map .int) := (Ts.rows (by omega) u).le (by omega) (by omega)
 have t1 : Ts [] H2 2 201 [o] := (Ts.cons to (Ts.nil (w := 0))).le (Nat.le_refl _) (by omega)
 have fin : ∀ ds, Ts [] H2 2 4000 ds -> Zi0 k 0 ds = false -> Q (.tup ds) H2 := fun ds t e => q _ _ ⟨(T.tup t).le (by omega) (by omega), fun es h => by cases h; exact e⟩ X2
 have ml : (ls.map D.int).length ≤ 9 := by simpa using ll
 have lT : ∀ j : Nat, ((ls.map D.int).take j).length ≤ 9 := fun j => by simp; omega
 have lD : ∀ j : Nat, ((ls.map D.int).drop j).length ≤ 9 := fun j => by simp; omega
 fail "i"
 have Zck := w_bd2 (at_ := at_) g2 hd hl ll u tr to bo fin
 refine Zeh g2 hd (by omega) (by omega) fun r3 r30 _ => ?_
 fail "g"
 refine ⟨fun h => ?_, fun h => ?_⟩
 ·fail "g"
  refine Zm9 ?_
  fail "g"
  refine ⟨fun h => ?_, fun h => ?_⟩
  ·match ls, h with
   | [], h => simp at h
   | [_], h => simp at h
   | x :: y :: r, h =>
    fail "g"
    refine ⟨(x :: y :: r).map .int, rfl, by omega, ?_⟩
    fail "g"
    have tv : Ts [] H2 2 4000 ((x :: y :: r).map D.int).reverse := by
     rw [← List.map_reverse]
     have bb : ∀ l ∈ (x :: y :: r).reverse, -200 ≤ l ∧ l ≤ 200 := fun l hl => by
      have := (Zlc _ 0 (Int.le_refl _) u l (List.mem_reverse.mp hl)).2
      unfold Za5 at this; split at this <;> omega
     have all : ∀ zs : List Int, (∀ l ∈ zs, -200 ≤ l ∧ l ≤ 200) -> Ts [] H2 2 (41 * zs.length) (zs.map .int) := fun zs => by
      induction zs with
      | nil => intro _; exact Ts.nil
      | cons l r ih => intro b; exact (Ts.cons (T.int (by have := b l (by simp); omega) (by have := b l (by simp); omega)) (ih fun x hx => b x (by simp [hx]))).le (Nat.le_refl _) (by simp; omega)
     exact (all _ bb).le (Nat.le_refl _) (by simp at ll ⊢; omega)
    refine fin _ tv ?_
    have z := Zd3 (m := k) (a := y) (b := x) (post := []) (Int.le_of_lt u.2.2.1) (r.map .int).reverse 0
    simpa using z
  ·refine w_snil (w_kn ?_)
   exact Zck
 ·refine ⟨fun z => (by cases z), fun _ => w_snil (w_kn ?_)⟩
  exact Zck
theorem Bad.tup1 {d : D} {w : Nat} (t : T [] H 2 w d) (hw : w ≤ 4000) (b : Zul k d) : Bad k H (.tup [d]) := ⟨(T.one t).le (by omega) (by omega), fun ds e => by cases e; exact Zf0 b [] 0 (by omega)⟩
theorem Bad.tup2 {a : Int} {d : D} {w : Nat} (ha : -200 ≤ a ∧ a ≤ 200) (t : T [] H 2 w d) (hw : w ≤ 4000) (b : Zul k d ∨ ∃ i, d = .int i ∧ Za5 i ≤ Za5 a) : Bad k H (.tup [.int a, d]) :=
 ⟨(T.two (T.int (k := 2) (by omega) (by omega)) t).le (by omega) (by omega), fun ds e => by
   cases e
   rcases b with b | ⟨i, rfl, h⟩
   ·exact Zf0 b [.int a] 0 (by omega)
   ·exact Zd3 h [] 0⟩
theorem Bad.oth {d : D} {w : Nat} (t : T [] H 3 w d) (hw : w ≤ 5000) (h : ∀ ds, d ≠ .tup ds) : Bad k H d := ⟨t.le (by omega) (by omega), fun ds e => absurd e (h ds)⟩
theorem Zg8 {i : Int} (h : (k : Int) < Za5 i) : Zul k (.int i) := fun j e => by cases e; exact .inr h
theorem Zu8 : Zul k (.int 0) := fun j e => by cases e; left; decide
theorem Zkb {d : D} (h : ∀ i, d ≠ .int i) : Zul k d := fun i e => absurd e (h i)
theorem T.lst1 {p : Nat} {i : Int} (g : H[p]? = some (.lst [.int i])) (h : -200 ≤ i ∧ i ≤ 200) : T [] H 3 100 (.ref p) := (T.lst (by simp) g (Ts.cons (T.int (k := 0) (by omega) (by omega)) (Ts.nil (w := 0)))).le (by omega) (by omega)
theorem Zy5 {low : Int} {E O : Nat} (hk : k ≤ 8) (l1 : 1 ≤ low) (l2 : low ≤ k + 1) (gE : H[E]? = some (.lst [])) (gO : H[O]? = some (.lst [.int low])) : ∀ d ∈ [D.tup [.int ((k : Int) + 1)], .tup [.int (0 - (k : Int) - 1)], .tup [.int 0], .tup [.bl true], .tup [.str "1"], .non, .str "1", .int low, .ref E, .tup [.int low, .int low], .tup [.int low, .int (-low)], .tup [.non]] ++ [.ref O, .tup [.int (10 ^ 20)], .tup [.tup [.int low]], .tup [.int low, .int 0]], Bad k H d := by
 have ti : ∀ i : Int, -200 ≤ i -> i ≤ 200 -> T [] H 2 40 (.int i) := fun i h1 h2 => T.int (by omega) (by omega)
 intro d hd
 simp only [List.cons_append, List.nil_append, List.mem_cons, List.not_mem_nil, or_false] at hd
 rcases hd with rfl | rfl | rfl | rfl | rfl | rfl | rfl | rfl | rfl | rfl | rfl | rfl | rfl | rfl | rfl | rfl
 ·exact .tup1 (ti _ (by omega) (by omega)) (by omega) (Zg8 (by unfold Za5; split <;> omega))
 ·exact .tup1 (ti _ (by omega) (by omega)) (by omega) (Zg8 (by unfold Za5; split <;> omega))
 ·exact .tup1 (ti _ (by omega) (by omega)) (by omega) Zu8
 ·exact .tup1 T.bl (by omega) (Zkb (by rintro i ⟨⟩))
 ·exact .tup1 (T.str (by decide) (by decide) (by decide)) (by omega) (Zkb (by rintro i ⟨⟩))
 ·exact .oth T.non (by omega) (by rintro ds ⟨⟩)
 ·exact .oth (T.str (by decide) (by decide) (by decide)) (by omega) (by rintro ds ⟨⟩)
 ·exact .oth (T.int (by omega) (by omega)) (by omega) (by rintro ds ⟨⟩)
 ·exact .oth (T.lst (by simp) gE (Ts.nil (k := 2) (w := 0))) (by omega) (by rintro ds ⟨⟩)
 ·exact .tup2 (by omega) (ti _ (by omega) (by omega)) (by omega) (.inr ⟨_, rfl, Int.le_refl _⟩)
 ·exact .tup2 (by omega) (ti _ (by omega) (by omega)) (by omega) (.inr ⟨_, rfl, by unfold Za5; split <;> split <;> omega⟩)
 ·exact .tup1 T.non (by omega) (Zkb (by rintro i ⟨⟩))
 ·exact .oth (T.lst1 gO (by omega)) (by omega) (by rintro ds ⟨⟩)
 ·exact .tup1 T.big (by omega) (Zg8 (by rw [show Za5 (10 ^ 20) = 100000000000000000000 from rfl]; omega))
 ·exact .tup1 ((T.one (T.int (k := 1) (by omega) (by omega))).le (by omega) (Nat.le_refl _)) (by omega) (Zkb (by rintro i ⟨⟩))
 ·exact .tup2 (by omega) (ti _ (by omega) (by omega)) (by omega) (.inl Zu8)
theorem bads2 {O : Nat} (hk : k ≤ 8) (h1 : 1 < k) (gO : H[O]? = some (.lst [.int 1, .int 2])) : ∀ d ∈ [D.tup [.int 2, .int 1], .tup [.int k, .int (-1)], .ref O, .tup [.int 1, .int 2, .int 2]], Bad k H d := by
 have ti : ∀ i : Int, -200 ≤ i -> i ≤ 200 -> T [] H 2 40 (.int i) := fun i h1 h2 => T.int (by omega) (by omega)
 intro d hd
 simp only [List.mem_cons, List.not_mem_nil, or_false] at hd
 rcases hd with rfl | rfl | rfl | rfl
 ·exact .tup2 (by omega) (ti _ (by omega) (by omega)) (by omega) (.inr ⟨_, rfl, by decide⟩)
 ·exact .tup2 (by omega) (ti _ (by omega) (by omega)) (by omega) (.inr ⟨_, rfl, by unfold Za5; split <;> split <;> omega⟩)
 ·exact .oth (T.lst (by simp) gO (Ts.cons (ti 1 (by omega) (by omega)) (Ts.cons (ti 2 (by omega) (by omega)) (Ts.nil (w := 0))))) (by omega) (by rintro ds ⟨⟩)
 ·exact ⟨(T.tup (Ts.cons (ti 1 (by omega) (by omega)) (Ts.cons (ti 2 (by omega) (by omega)) (Ts.cons (ti 2 (by omega) (by omega)) (Ts.nil (w := 0)))))).le (by omega) (by omega), fun ds e => by cases e; exact Zd3 (Int.le_refl _) [.int 1] 0⟩
theorem Zny {p : Nat} {ds : List Int} (hk : k ≤ 8) (g : H[p]? = some (.lst (ds.map .int))) (hd : Zoq ds) (hl : 5 ≤ ds.length) (q : ∀ d H', Bad k H' d -> Fm [] H H' -> Q d H') : wE (Zcr [.int k, .ref p] H) Q := by
 refine Zcf rfl ?_
 show wS (Zcq [some (.int k), some (.ref p), none, none] H) _
 unfold Zcq
 fail "i"
 refine Zeh g hd (by omega) (by omega) fun r4 r40 _ => ?_
 fail "g"
 refine ⟨fun h => ?_, fun h => ?_⟩
 ·fail "g"
  exact Zi9 hk g hd (by omega) q |> fun z => by
   fail "g"
   exact z
 ·fail "g"
  refine Zeh g hd (by omega) (by omega) fun r0 r00 _ => ?_
  fail "g"
  obtain ⟨low, hlow, l1, l2⟩ : ∃ low : Int, 1 + r0 % ((k : Int) + 1) = low ∧ 1 ≤ low ∧ low ≤ k + 1 := ⟨_, rfl, by have := Int.emod_nonneg r0 (show (k : Int) + 1 ≠ 0 by omega); omega, by have := Int.emod_lt_of_pos r0 (show 0 < (k : Int) + 1 by omega); omega⟩
  refine w_mod (by omega) ?_
  fail "g"
  rw [hlow]
  fail "g"
  refine w_pow 20 (by omega) ?_
  fail "g"
  refine Zh4 (appL (appL last)) last (by simp) ?_
  fail "g"
  refine Zut (fun σ H' => ∃ L pr, H'[pr]? = some (.lst L) ∧ L ≠ [] ∧ L.length ≤ 100 ∧ (∀ d ∈ L, Bad k H' d) ∧ Fm [] H H' ∧ σ = [some (.int k), some (.ref p), some (.int low), some (.ref pr)]) ?_ ?_
  ·(refine WP.w_if ?_; fail "g")
   refine ⟨fun h => ?_, fun h => ?_⟩
   ·have hk1 : 1 < k := by simp at h; omega
    fail "g"
    refine Zh4 (appL (appL last)) last (by simp) ?_
    fail "g"
    refine ⟨rfl, _, _, last, by simp, by simp, fun d hd => ?_, ((((((((Fm.app _).trans (.app _)).trans (.app _)).trans (.app _)).trans (.app _)).trans (.app _)).trans (.app _)).trans (.app _)), rfl⟩
    rcases List.mem_append.mp hd with hd | hd
    ·refine Bad.keep (Bad.keep (Bad.keep (Bad.keep (Zy5 hk l1 l2 ?_ ?_ d hd) (Fm.app _)) (Fm.app _)) (Fm.app _)) (Fm.app _)
     ·exact appL (appL (appL last))
     ·exact appL last
    ·refine Bad.keep (bads2 hk hk1 ?_ d hd) (Fm.app _)
     exact appL last
   ·fail "g"
    refine ⟨rfl, _, _, last, by simp, by simp, fun d hd => ?_, (((((Fm.app _).trans (.app _)).trans (.app _)).trans (.app _)).trans (.app _)), rfl⟩
    refine Bad.keep (Zy5 hk l1 l2 ?_ ?_ d hd) (Fm.app _)
    ·exact appL (appL (appL last))
    ·exact appL last
  ·rintro _ H5 ⟨L, pr, gL, n0, n100, bL, X5, rfl⟩
   have l0 : 0 < L.length := List.length_pos_iff.mpr n0
   fail "g"
   refine Zeh (X5.lst (by simp) g) hd (by omega) (by omega) fun r1 r10 _ => ?_
   fail "g"
   refine w_mod (by omega) ?_
   obtain ⟨j, hj, lj⟩ : ∃ j : Nat, r1 % (L.length : Int) = j ∧ j < L.length := ⟨(r1 % (L.length : Int)).toNat, by have := Int.emod_nonneg r1 (show (L.length : Int) ≠ 0 by omega); omega, by have := Int.emod_lt_of_pos r1 (show 0 < (L.length : Int) by omega); omega⟩
   rw [hj]
   refine w_ixR gL (Zaz (List.getElem?_eq_getElem lj)) ?_
   fail "g"
   exact q _ _ (bL _ (List.getElem_mem lj)) X5
theorem Zts {p m : Nat} {ds : List Int} (hm : m ≤ 20) (g : H[p]? = some (.lst (ds.map .int))) (hd : Zoq ds) (hl : 1 ≤ ds.length) (q : ∀ d H', T [] H' 3 5000 d -> Zon m d = false -> Fm [] H H' -> Q d H') : wE (Zdc [.int m, .ref p] H) Q := by
 refine Zcf rfl ?_
 show wS (Zbl [some (.int m), some (.ref p)] H) _
 unfold Zbl
 fail "g"
 refine w_pow 20 (by omega) ?_
 fail "g"
 refine Zeh (appL (appL g)) hd (by omega) (by omega) fun r r0 _ => ?_
 fail "g"
 have fin : ∀ d, T [] (H ++ [DO.lst [D.int 0]]) 3 5000 d -> Zon m d = false -> ∀ u, Q d (H ++ [DO.lst [D.int 0]] ++ [u]) := fun d t e u => q d _ (t.fm (.app _)) e ((Fm.app _).trans (.app _))
 rcases (show r % 10 = 0 ∨ r % 10 = 1 ∨ r % 10 = 2 ∨ r % 10 = 3 ∨ r % 10 = 4 ∨ r % 10 = 5 ∨ r % 10 = 6 ∨ r % 10 = 7 ∨ r % 10 = 8 ∨ r % 10 = 9 by omega) with e | e | e | e | e | e | e | e | e | e <;> rw [e] <;> refine w_ixR last rfl ?_ <;> fail "g"
 ·exact fin _ ((T.int (by omega) (by omega)).le (Nat.le_refl _) (by omega)) (by simp [Zon]) _
 ·exact fin _ ((T.int (by omega) (by omega)).le (Nat.le_refl _) (by omega)) (by simp [Zon]) _
 ·exact fin _ (T.bl.le (Nat.le_refl _) (by omega)) rfl _
 ·exact fin _ (T.non.le (Nat.le_refl _) (by omega)) rfl _
 ·exact fin _ ((T.str (by decide) (by decide) (by decide)).le (Nat.le_refl _) (by omega)) rfl _
 ·exact fin _ (T.big.le (Nat.le_refl _) (by omega)) (by simp [Zon]; omega) _
 ·exact fin _ ((T.lst (k := 2) (by simp) last (Ts.cons (T.int (by omega) (by omega)) (Ts.nil (w := 0)))).le (by omega) (by omega)) rfl _
 ·exact fin _ ((T.int (by omega) (by omega)).le (Nat.le_refl _) (by omega)) (by simp [Zon]; omega) _
 ·exact fin _ ((T.one (T.int (k := 2) (by omega) (by omega))).le (by omega) (by omega)) rfl _
 ·exact fin _ (T.bl.le (Nat.le_refl _) (by omega)) rfl _
noncomputable def enc (bs : List Bool) : List Int := bs.map fun b => if b then 1 else 0
theorem Zge (bs : List Bool) : nk (Zba bs) = some (enc bs) := by
 show Zj4 (bs.map D.bl) = _
 induction bs with
 | nil => rfl
 | cons b r ih =>
  rw [List.map_cons, Zj4, ih]
  cases b <;> rfl
theorem Zl9 : ∀ a b : List Bool, enc a = enc b -> a = b
 | [], [], _ => rfl
 | [], _ :: _, h => by simp [enc] at h
 | _ :: _, [], h => by simp [enc] at h
 | x :: a, y :: b, h => by
  have h1 : (if x then (1 : Int) else 0) = (if y then 1 else 0) := (List.cons.inj h).1
  have h2 : enc a = enc b := (List.cons.inj h).2
  rw [Zl9 a b h2]
  cases x <;> cases y <;> simp at h1 <;> rfl
noncomputable def kvD (v : List Bool -> D) (bs : List Bool) : D × D := (Zba bs, v bs)
theorem Zm6 {v : List Bool -> D} {bs : List Bool} : ∀ done : List (List Bool), bs ∈ done -> Za3 (done.map (kvD v)) (enc bs) = some (v bs)
 | [], h => by simp at h
 | x :: r, h => by
  unfold Za3
  rw [List.map_cons, List.find?_cons]
  by_cases c : x = bs
  ·subst c
   have : (nk (kvD v x).1 == some (enc x)) = true := by simp [kvD, Zge]
   rw [this]; rfl
  ·have : (nk (kvD v x).1 == some (enc bs)) = false := by
    simp only [kvD, Zge]
    exact beq_eq_false_iff_ne.mpr fun z => c (Zl9 x bs (Option.some.inj z))
   rw [this]
   rcases List.mem_cons.mp h with h | h
   ·exact absurd h.symm c
   ·exact Zm6 r h
theorem Zlg {v : List Bool -> D} {bs : List Bool} : ∀ done : List (List Bool), bs ∉ done -> Za3 (done.map (kvD v)) (enc bs) = none
 | [], h => rfl
 | x :: r, h => by
  unfold Za3
  rw [List.map_cons, List.find?_cons]
  have c : x ≠ bs := fun z => h (by simp [z])
  have : (nk (kvD v x).1 == some (enc bs)) = false := by
   simp only [kvD, Zge]
   exact beq_eq_false_iff_ne.mpr fun z => c (Zl9 x bs (Option.some.inj z))
  rw [this]
  exact Zlg r fun z => h (by simp [z])
theorem putV {v : List Bool -> D} {bs : List Bool} {done : List (List Bool)} (hn : bs ∉ done) : Zi6 (done.map (kvD v)) (Zba bs) (enc bs) (v bs) = (done ++ [bs]).map (kvD v) := by
 unfold Zi6; rw [Zlg done hn]; simp [kvD]
theorem w_put {v : List Bool -> D} {d : D} {done : List (List Bool)} {p : Nat} {bs : List Bool} {Q : HD -> Prop} (g : H[p]? = some (.dic (done.map (kvD v)) false)) (ed : d = v bs) (hn : bs ∉ done) (hl : done.length ≤ 10000) (q : Q (H.set p (.dic ((done ++ [bs]).map (kvD v)) false))) : wH (Zod (.ref p) (Zba bs) d H) Q := by
 subst ed
 have sz : (done.map (kvD v)).length < sizeLine := by rw [PySem.sizeLine_eq, List.length_map]; omega
 refine ⟨_, ?_, q⟩
 unfold Zod
 simp only [g, Zge, Zb, if_pos sz, putV hn]
theorem Zr5 {v : List Bool -> D} {done : List (List Bool)} {p : Nat} {fz : Bool} {bs : List Bool} (g : H[p]? = some (.dic (done.map (kvD v)) fz)) (hm : bs ∈ done) (q : Q (v bs) H) : wE (Zf7 (.ref p) (Zba bs) H) Q := Zyb g (Zge bs) (Zm6 done hm) q
theorem Zlf {v : List Bool -> D} : ∀ xs : List (List Bool), pkv (xs.map fun bs => .tup [Zba bs, v bs]) = some (xs.map fun bs => (Zba bs, enc bs, v bs))
 | [] => rfl
 | x :: r => by
  rw [List.map_cons, pkv, Zge, Zb, Zlf r]; rfl
theorem Zhm {v : List Bool -> D} : ∀ (xs acc : List (List Bool)), (acc ++ xs).Nodup -> (xs.map fun bs => (Zba bs, enc bs, v bs)).foldl (fun acc p => Zi6 acc p.1 p.2.1 p.2.2) (acc.map (kvD v)) = (acc ++ xs).map (kvD v)
 | [], acc, _ => by simp
 | x :: r, acc, h => by
  have hn : x ∉ acc := fun z => (List.nodup_append.mp h).2.2 x z x (by simp) rfl
  rw [List.map_cons, List.foldl_cons]
  show List.foldl _ (Zi6 (acc.map (kvD v)) (Zba x) (enc x) (v x)) _ = _
  rw [putV hn, Zhm r (acc ++ [x]) (by rw [List.append_assoc]; exact h), List.append_assoc]; rfl
theorem Zwa {v : List Bool -> D} {xs : List (List Bool)} {n : Nat} (g : H[n]? = some (.lst (xs.map fun bs => .tup [Zba bs, v bs]))) (nd : xs.Nodup) (hl : xs.length ≤ 1000) (q : Q (.ref H.length) (H ++ [.dic (xs.map (kvD v)) false])) : wE (Zk0 [.ref n] H) Q := by
 have sz : (xs.map fun bs => (Zba bs, enc bs, v bs)).length < sizeLine := by rw [PySem.sizeLine_eq, List.length_map]; omega
 have e : Zs3 (xs.map fun bs => (Zba bs, enc bs, v bs)) = xs.map (kvD v) := Zhm xs [] nd
 refine ⟨_, _, ?_, q⟩
 unfold Zk0
 simp only [g, Zlf, Zb, if_pos sz, e]
theorem Fm.froz {p : Nat} {kvs : List (D × D)} {fz : Bool} (g : H[p]? = some (.dic kvs fz)) : Fm [] H (H.set p (.dic kvs true)) := by
 refine ⟨fun m o _ q => ?_, by simp⟩
 by_cases e : p = m
 ·subst e
  rw [g] at q
  cases q
  cases fz with
  | true => exact .inl (Zw4 g)
  | false => exact .inr ⟨kvs, rfl, Zw4 g⟩
 ·exact .inl (setO e q)
theorem w_irb {σ : SD} {f : AF} {I : List D -> Zjt -> HD -> Prop} (h : wA (f σ H) fun ds H1 => ∃ i j c, ds = [.int i, .int j, .int c] ∧ Ziz i j c ∧ I (Zfg i c (Zf5 i j)) [] H1) : wI (iRB f σ H) I := by
 obtain ⟨ds, H1, e, i, j, c, rfl, s1, q⟩ := h
 exact ⟨_, _, H1, by unfold iRB; rw [e]; exact if_pos s1, q⟩
noncomputable def Zs6 : Nat -> List D
 | 0 => []
 | m + 1 => .int m :: Zs6 m
theorem Zru : ∀ n : Nat, Zfg ((n : Int) - 1) (-1) n = Zs6 n
 | 0 => rfl
 | n + 1 => by
  have ih := Zru n
  unfold Zfg at ih ⊢
  rw [List.range_succ_eq_map, List.map_cons, List.map_map, Zs6, ← ih]
  congr 1
  ·congr 1; omega
  ·refine List.map_congr_left fun k _ => ?_
   show D.int _ = D.int _
   congr 1
   show (↑(n + 1) : Int) - 1 + ((k + 1 : Nat) : Int) * -1 = _
   omega
variable {H : HD} {Q : D -> HD -> Prop} {ks : List D} {rss : List (List Int)}
noncomputable def litR (bs : List Bool) : D -> Bool
 | .int l => rig bs l
 | _ => false
theorem Zuf {pr : Nat} {bs : List Bool} (c : Cl ks rss) (hb : bs.length = ks.length) (g : H[pr]? = some (.lst (rss.map Zan))) (q : ∀ H', Fm [] H H' -> Q (.bl (!rss.all (kept bs))) H') : wE (Zf9 [.ref pr, Zba bs] H) Q := by
 have h8 := c.h8
 refine Zcf rfl ?_
 show wS (Zdx [some (.ref pr), some (Zba bs), none, none] H) _
 unfold Zdx
 fail "g"
 refine Zdf (fun d t σ H' => ∃ (dn td : List (List Int)) (z z2 : Option D), t = td.map Zan ∧ rss = dn ++ td ∧ dn.all (kept bs) = true ∧ Fm [] H H' ∧ σ = [some (.ref pr), some (Zba bs), z, z2]) (fun _ _ _ _ ⟨_, _, _, _, _, _, _, x, _⟩ => Zv7 (x.lst (by simp) g)) (fun d x t σ H1 ⟨dn, td, z, z2, i1, i2, i3, i4, i5⟩ => ?_) (fun d σ H1 ⟨dn, td, z, z2, i1, i2, i3, i4, i5⟩ => ?_) _ [] _ _ ⟨[], rss, none, none, rfl, rfl, rfl, Fm.refl, rfl⟩
 ·subst i5
  obtain ⟨ls, tr, rfl, rfl, rfl⟩ : ∃ ls tr, td = ls :: tr ∧ x = Zan ls ∧ t = tr.map Zan := by
   cases td with
   | nil => cases i1
   | cons b tr => obtain ⟨e1, e2⟩ := List.cons.inj i1; exact ⟨b, tr, rfl, e1, e2⟩
  have hm : ls ∈ rss := by rw [i2]; simp
  have ub := Zlc ls 0 (by omega) (c.hu ls hm)
  have ul := c.len9 hm
  unfold Zan
  fail "g"
  refine Zhp (litR bs) (fun H' => H' = H1) (fun _ _ => Zpw) _ (fun y hy H2 j => ?_) _ rfl fun H2 j => ?_
  ·obtain ⟨l, hl, rfl⟩ := List.mem_map.mp hy
   subst j
   have := ub l hl
   have lt : (Za5 l - 1).toNat < bs.length := by omega
   have rg : rig bs l = (bs[(Za5 l - 1).toNat] == decide (0 < l)) := by unfold rig; rw [List.getElem?_eq_getElem lt]
   fail "g"
   refine w_ixT (xs := bs.map .bl) (Zhy (by omega) (d := .bl bs[(Za5 l - 1).toNat]) (by rw [List.getElem?_map, List.getElem?_eq_getElem lt]; rfl)) ?_
   fail "g"
   refine w_eqB ?_
   fail "g"
   exact ⟨rg.symm, rfl⟩
  subst j
  have ef : (ls.map D.int).filter (litR bs) = (ls.filter (rig bs)).map D.int := by rw [List.filter_map]; rfl
  have lf := List.length_filter_le (rig bs) ls
  rw [ef]
  refine ⟨by simp; omega, ?_⟩
  fail "i"
  refine ⟨_, _, Zmc (Fines.dat (Zh0 _) (by omega) (appL last)) (Fines.dat (h := 0) Fines.nil (by omega) last), ?_⟩
  fail "g"
  have ek : PyData.eqv (.list ((ls.filter (rig bs)).map .int)) (.list []) = !kept bs ls := by
   unfold kept
   cases hk : ls.filter (rig bs) with
   | nil =>
    have : ls.any (rig bs) = false := by
     rw [List.any_eq_false]
     intro a ha hr
     have : a ∈ ls.filter (rig bs) := List.mem_filter.mpr ⟨ha, hr⟩
     rw [hk] at this; cases this
    rw [this]; simp [PyData.eqv, PyData.eqvAll]
   | cons a r =>
    have : ls.any (rig bs) = true := by
     have m : a ∈ ls.filter (rig bs) := by rw [hk]; simp
     obtain ⟨m1, m2⟩ := List.mem_filter.mp m
     exact List.any_eq_true.mpr ⟨a, m1, m2⟩
    rw [this]; simp [PyData.eqv, PyData.eqvAll]
  rw [ek]
  cases hk : kept bs ls with
  | true =>
   fail "g"
   exact ⟨dn ++ [ls], tr, _, _, rfl, by rw [i2]; simp, by rw [List.all_append, i3]; simp [hk], (i4.trans (.app _)).trans (.app _), rfl⟩
  | false =>
   fail "g"
   have : rss.all (kept bs) = false := by rw [i2, List.all_append, List.all_cons, hk]; simp
   rw [this] at q
   exact q _ ((i4.trans (.app _)).trans (.app _))
 ·have : td = [] := by cases td with | nil => rfl | cons _ _ => cases i1
  subst this; subst i5
  rw [List.append_nil] at i2
  subst i2
  fail "g"
  rw [i3] at q
  exact q _ i4
noncomputable def lvl : Nat -> List (List Bool)
 | 0 => [[]]
 | k + 1 => (lvl k).map (· ++ [false]) ++ (lvl k).map (· ++ [true])
theorem Zhu : ∀ (k : Nat), ∀ bs ∈ lvl k, bs.length = k
 | 0, bs, h => by simp [lvl] at h; subst h; rfl
 | k + 1, bs, h => by
  rw [lvl, List.mem_append, List.mem_map, List.mem_map] at h
  rcases h with ⟨x, hx, rfl⟩ | ⟨x, hx, rfl⟩ <;> simp [Zhu k x hx]
theorem Zm5 : ∀ k : Nat, (lvl k).length = 2 ^ k
 | 0 => rfl
 | k + 1 => by rw [lvl, List.length_append, List.length_map, List.length_map, Zm5 k, Nat.pow_succ]; omega
theorem Zih : ∀ k : Nat, (lvl k).Nodup
 | 0 => by simp [lvl]
 | k + 1 => by
  have inj : ∀ t : Bool, ((lvl k).map (· ++ [t])).Nodup := fun t => List.Pairwise.map _ (fun a b h e => h (List.append_inj' e rfl).1) (Zih k)
  refine List.nodup_append.mpr ⟨inj false, inj true, fun a ha b hb e => ?_⟩
  obtain ⟨x, _, rfl⟩ := List.mem_map.mp ha
  obtain ⟨y, _, rfl⟩ := List.mem_map.mp hb
  have := (List.append_inj' e rfl).2
  cases this
noncomputable def WV (ks : List D) (rss : List (List Int)) (bs : List Bool) : D := .bl (W ks rss (ks.length - bs.length) bs)
theorem Zz7 {bs : List Bool} (h : bs.length < ks.length) : W ks rss (ks.length - bs.length) bs = (if kS (ks.getD bs.length .non) then W ks rss (ks.length - (bs ++ [false]).length) (bs ++ [false]) || W ks rss (ks.length - (bs ++ [true]).length) (bs ++ [true]) else W ks rss (ks.length - (bs ++ [false]).length) (bs ++ [false]) && W ks rss (ks.length - (bs ++ [true]).length) (bs ++ [true])) := by
 have e : ks.length - bs.length = (ks.length - (bs.length + 1)) + 1 := by omega
 have l : ∀ t : Bool, (bs ++ [t]).length = bs.length + 1 := fun t => by simp
 rw [l, l, e, W]
 generalize W ks rss (ks.length - (bs.length + 1)) (bs ++ [false]) = a
 generalize W ks rss (ks.length - (bs.length + 1)) (bs ++ [true]) = b
 generalize kS (ks.getD bs.length .non) = w
 cases a <;> cases b <;> cases w <;> rfl
noncomputable def Zol (t : Bool) : D -> D
 | .tup bs => .tup (bs ++ [.bl t])
 | _ => .non
theorem Znq (t : Bool) (xs : List (List Bool)) : (xs.map Zba).map (Zol t) = (xs.map (· ++ [t])).map Zba := by
 rw [List.map_map, List.map_map]
 exact List.map_congr_left fun b _ => by simp [Zol, Zba]
noncomputable def unB : D -> Bool
 | .bl b => b
 | _ => false
noncomputable def Zs2 (rss : List (List Int)) : D -> D
 | .tup bs => .tup [.tup bs, .bl (rss.all (kept (bs.map unB)))]
 | _ => .non
theorem Zix (bs : List Bool) : Zs2 rss (Zba bs) = .tup [Zba bs, .bl (rss.all (kept bs))] := by
 have : (bs.map D.bl).map unB = bs := by rw [List.map_map]; simp [Function.comp_def, unB]
 show D.tup [.tup (bs.map .bl), .bl (rss.all (kept ((bs.map D.bl).map unB)))] = _
 rw [this]; rfl
theorem Zr0 {b : List Bool} {t : Bool} {m : Nat} (h : b.length = m) : atI ((b ++ [t]).map D.bl) (m : Int) = some (.bl t) := Zaz (by subst h; simp)
theorem Zhj {b : List Bool} {t : Bool} {m : Nat} (h : b.length = m) : D.tup (((b ++ [t]).map D.bl).take m) = Zba b := by subst h; simp [Zba]
theorem Zm0 {pr : Nat} (c : Cl ks rss) (g : H[pr]? = some (.lst (rss.map Zan))) (q : ∀ H', Fm [] H H' -> Q (FW ks rss []) H') : wE (Zcj [.tup ks, .ref pr] H) Q := by
 have h8 := c.h8
 have lv : ∀ k, k ≤ 8 -> (lvl k).length ≤ 256 := fun k h => by rw [Zm5]; exact Nat.le_trans (Nat.pow_le_pow_right (by omega) h) (by decide)
 refine Zcf rfl ?_
 show wS (Zc4 [some (.tup ks), some (.ref pr), none, none, none, none, none, none, none] H) _
 unfold Zc4
 fail "g"
 refine Zdf (fun d t σ H' => ∃ pl, d.length + t.length = ks.length ∧ H'[pl]? = some (.lst ((lvl d.length).map Zba)) ∧ Fm [] H H' ∧ ∃ z3, σ = [some (.tup ks), some (.ref pr), some (.ref pl), z3, none, none, none, none, none]) (fun _ _ _ _ _ => Zpw) (fun d x t σ H1 ⟨pl, e1, g1, x1, z3, e⟩ => ?_) (fun d σ H1 ⟨pl, e1, g1, x1, z3, e⟩ => ?_) _ [] _ _ ⟨_, by simp, last, .app _, _, rfl⟩
 ·subst e
  simp at e1
  have l1 := lv d.length (by omega)
  have ln := Zhu d.length
  fail "g"
  refine Zne (Zol false) (fun H' => H' = H1) (fun _ j => Zv7 (by rw [j]; exact g1)) _ (fun y hy H2 j => ?_) _ rfl fun H2 j => ?_
  ·obtain ⟨bs, hb, rfl⟩ := List.mem_map.mp hy
   have := ln bs hb
   subst j
   fail "g"
   exact ⟨by simp [Zba, Zol], rfl⟩
  ·subst j
   rw [Znq]
   refine ⟨by simp; omega, ?_⟩
   fail "g"
   refine Zne (Zol true) (fun H' => Fm [] (H2 ++ [.lst (((lvl d.length).map (· ++ [false])).map Zba)]) H') (fun _ j => Zv7 (j.lst (by simp) (appL g1))) _ (fun y hy H3 j => ?_) _ .refl fun H3 j => ?_
   ·obtain ⟨bs, hb, rfl⟩ := List.mem_map.mp hy
    have := ln bs hb
    fail "g"
    exact ⟨by simp [Zba, Zol], j⟩
   ·rw [Znq]
    refine ⟨by simp; omega, ?_⟩
    fail "g"
    refine Zh4 (appL (j.lst (by simp) last)) last (by simp; omega) ?_
    fail "g"
    refine ⟨_, by simp; omega, last.trans ?_, ((x1.trans (.app _)).trans j).trans ((Fm.app _).trans (.app _)), _, rfl⟩
    rw [List.length_append, List.length_cons, List.length_nil, lvl, List.map_append]
 ·subst e
  simp at e1
  subst_vars
  have l1 := lv d.length (by omega)
  have g0 := x1.lst (by simp) g
  fail "g"
  refine Zne (Zs2 rss) (fun H' => Fm [] H1 H') (fun _ j => Zv7 (j.lst (by simp) g1)) _ (fun y hy H2 j => ?_) _ .refl fun H2 j => ?_
  ·obtain ⟨bs, hb, rfl⟩ := List.mem_map.mp hy
   have lb := Zhu d.length bs hb
   fail "g"
   refine Zuf c (by omega) (j.lst (by simp) g0) fun H3 x3 => ?_
   fail "g"
   exact ⟨by rw [Zix]; simp, j.trans x3⟩
  ·have em : ((lvl d.length).map Zba).map (Zs2 rss) = (lvl d.length).map fun bs => .tup [Zba bs, WV ks rss bs] := by
    rw [List.map_map]
    refine List.map_congr_left fun bs hb => ?_
    have lb := Zhu d.length bs hb
    show Zs2 rss (Zba bs) = _
    rw [Zix]
    unfold WV
    rw [show ks.length - bs.length = 0 by omega]
    rfl
   rw [em]
   refine ⟨by simp; omega, ?_⟩
   fail "g"
   refine Zwa (v := WV ks rss) last (Zih _) (by omega) ?_
   have X3 : Fm [] H (H2 ++ [.lst ((lvl d.length).map fun bs => .tup [Zba bs, WV ks rss bs])]) := (x1.trans j).trans (.app _)
   generalize H2 ++ [.lst ((lvl d.length).map fun bs => .tup [Zba bs, WV ks rss bs])] = H3 at X3 ⊢
   fail "g"
   refine w_irb ?_
   fail "g"
   refine ⟨_, _, _, rfl, ⟨by omega, by omega, by omega, by omega, rfl⟩, ?_⟩
   rw [show Zf5 ((ks.length : Int) - 1) (-1) = ks.length by unfold Zf5; omega, Zru]
   refine Zdf (fun _ t σ H' => ∃ (m pw : Nat) (fz : Bool), t = Zs6 m ∧ m ≤ ks.length ∧ H'[pw]? = some (.dic ((lvl m).map (kvD (WV ks rss))) fz) ∧ Fm [] H H' ∧ ∃ z5 z6 z7 z8, σ = [some (.tup ks), some (.ref pr), some (.ref pl), z3, some (.ref pw), z5, z6, z7, z8])
    (fun _ _ _ _ _ => Zpw) (fun _ x t σ H4 ⟨m, pw, fz, i1, i2, g4, x4, z5, z6, z7, z8, e⟩ => ?_) (fun _ σ H4 ⟨m, pw, fz, i1, i2, g4, x4, z5, z6, z7, z8, e⟩ => ?_) _ [] _ _ ⟨ks.length, _, _, rfl, Nat.le_refl _, by rw [← e1]; exact last, X3.trans (.app _), _, _, _, _, rfl⟩
   ·subst e
    cases m with
    | zero => cases i1
    | succ m =>
     obtain ⟨rfl, rfl⟩ := List.cons.inj i1
     have lm := lv m (by omega)
     have ln := Zhu m
     fail "g"
     refine ⟨pw, _, fz, rfl, appL g4, ?_⟩
     have np : pw ≠ H4.length := by have := (List.getElem?_eq_some_iff.mp g4).1; omega
     have gm0 : ((H4 ++ [DO.dic [] false]).set pw (.dic ((lvl (m + 1)).map (kvD (WV ks rss))) true))[H4.length]? = some (.dic (([] : List (List Bool)).map (kvD (WV ks rss))) false) := by rw [List.getElem?_set_ne np]; exact last
     have gw0 : ((H4 ++ [DO.dic [] false]).set pw (.dic ((lvl (m + 1)).map (kvD (WV ks rss))) true))[pw]? = some (.dic ((lvl (m + 1)).map (kvD (WV ks rss))) true) := Zw4 (appL g4)
     have X5 : Fm [] H ((H4 ++ [DO.dic [] false]).set pw (.dic ((lvl (m + 1)).map (kvD (WV ks rss))) true)) := (x4.trans (.app _)).trans (Fm.froz (appL g4))
     have l5 : H.length ≤ H4.length := x4.len
     generalize (H4 ++ [DO.dic [] false]).set pw (.dic ((lvl (m + 1)).map (kvD (WV ks rss))) true) = H5 at gm0 gw0 X5 ⊢
     have ek : ((lvl (m + 1)).map (kvD (WV ks rss))).map (·.1) = ((lvl m).map (· ++ [false]) ++ (lvl m).map (· ++ [true])).map Zba := by rw [List.map_map]; rfl
     rw [ek]
     refine Zdf (fun _ t σ H' => ∃ done Zck rest2, t = (Zck.map (· ++ [false]) ++ rest2.map (· ++ [true])).map Zba ∧ done ++ Zck = lvl m ∧ (∀ b ∈ rest2, b ∈ lvl m) ∧ H'[H4.length]? = some (.dic (done.map (kvD (WV ks rss))) false) ∧ Fm [H4.length] H5 H' ∧ ∃ z7 z8, σ = [some (.tup ks), some (.ref pr), some (.ref pl), z3, some (.ref pw), some (.int m), some (.ref H4.length), z7, z8])
      (fun _ _ _ _ ⟨_, _, _, _, _, _, _, x, _⟩ => Zv7 (x.fr (by simpa using np) gw0)) (fun _ y t' σ H6 ⟨done, Zck, rest2, k1, k2, k3, g6, x6, y7, y8, e⟩ => ?_) (fun _ σ H6 ⟨done, Zck, rest2, k1, k2, k3, g6, x6, y7, y8, e⟩ => ?_) _ [] _ _ ⟨[], lvl m, lvl m, rfl, rfl, fun _ h => h, gm0, .refl, _, _, rfl⟩
     ·subst e
      have gw6 := x6.fr (by simpa using np) gw0
      cases Zck with
      | cons b Zck =>
       obtain ⟨rfl, rfl⟩ := List.cons.inj k1
       have hb : b ∈ lvl m := by rw [← k2]; simp
       have lb := ln b hb
       have hn : b ∉ done := fun z => by
        have nd := Zih m
        rw [← k2] at nd
        exact (List.nodup_append.mp nd).2.2 b z b (by simp) rfl
       have ld : done.length ≤ 10000 := by have := congrArg List.length k2; simp at this; omega
       have mem : ∀ t : Bool, b ++ [t] ∈ lvl (m + 1) := fun t => by rw [lvl]; cases t <;> simp [hb]
       fail "i"
       refine w_ixT (xs := (b ++ [false]).map .bl) (Zr0 lb) ?_
       fail "g"
       refine Zr5 gw6 (mem false) ?_
       fail "g"
       refine w_slhi (xs := (b ++ [false]).map .bl) ?_
       rw [Zhj lb]
       fail "g"
       refine Zr5 gw6 (mem true) ?_
       fail "g"
       refine w_ixT (Zaz (Zvq c.hk (by omega))) ?_
       fail "g"
       have hv := Zz7 (ks := ks) (rss := rss) (bs := b) (by omega)
       rw [lb] at hv
       unfold WV
       generalize W ks rss (ks.length - (b ++ [false]).length) (b ++ [false]) = va at hv ⊢
       generalize W ks rss (ks.length - (b ++ [true]).length) (b ++ [true]) = vb at hv ⊢
       have put : ∀ (H7 : HD) (v : D) (y8 : Option D), Fm [H4.length] H6 H7 -> H7[H4.length]? = some (.dic (done.map (kvD (WV ks rss))) false) -> v = WV ks rss b -> wH (Zod (.ref H4.length) (Zba b) v H7) fun H8 => ∃ (done' rest' rest2' : List (List Bool)), (Zck.map (· ++ [false]) ++ rest2.map (· ++ [true])).map Zba = (rest'.map (· ++ [false]) ++ rest2'.map (· ++ [true])).map Zba ∧ done' ++ rest' = lvl m ∧ (∀ b ∈ rest2', b ∈ lvl m) ∧ H8[H4.length]? = some (.dic (done'.map (kvD (WV ks rss))) false) ∧ Fm [H4.length] H5 H8 ∧ ∃ z7 z8, [some (.tup ks), some (.ref pr), some (.ref pl), z3, some (.ref pw), some (.int m), some (.ref H4.length), some (Zba (b ++ [false])), y8] = [some (.tup ks), some (.ref pr), some (.ref pl), z3, some (.ref pw), some (.int m), some (.ref H4.length), z7, z8] := fun H7 v y8 x7 g7 ev =>
        w_put g7 ev hn ld ⟨done ++ [b], Zck, rest2, rfl, by rw [← k2]; simp, k3, List.getElem?_set_self (List.getElem?_eq_some_iff.mp g7).1, (x6.trans x7).trans (.set (by simp)), _, _, rfl⟩
       generalize kS (ks.getD m .non) = who at hv ⊢
       show wE (eqD (Zbm who) (Zbm true) _) _
       refine Zt0 ?_
       have x7 : Fm [H4.length] H6 (H6 ++ [DO.lst [D.bl va, D.bl vb]]) := .app _
       have g7 := appL (u := DO.lst [D.bl va, D.bl vb]) g6
       have ew : WV ks rss b = .bl (if who then va || vb else va && vb) := by unfold WV; rw [lb, hv]
       cases who with
       | true =>
        fail "g"
        refine w_inL (Fine.bl true) (Zi8 [va, vb]) (by omega) (by omega) last ?_
        fail "g"
        refine w_slhi (xs := (b ++ [false]).map .bl) ?_
        rw [Zhj lb]
        fail "g"
        obtain ⟨H8, e8, q8⟩ := put _ (.bl (([va, vb].map PyData.bool).any fun z => PyData.eqv z (.bool true))) _ x7 g7 (by rw [ew]; cases va <;> cases vb <;> rfl)
        refine ⟨H8, e8, ?_⟩
        fail "g"
        exact q8
       | false =>
        fail "g"
        refine Zss (Zt3 (bs := [va, vb]) last) ?_
        fail "g"
        refine w_slhi (xs := (b ++ [false]).map .bl) ?_
        rw [Zhj lb]
        fail "g"
        obtain ⟨H8, e8, q8⟩ := put _ (.bl ([va, vb].all id)) _ x7 g7 (by rw [ew]; cases va <;> cases vb <;> rfl)
        refine ⟨H8, e8, ?_⟩
        fail "g"
        exact q8
      | nil =>
       cases rest2 with
       | nil => cases k1
       | cons b rest2 =>
        obtain ⟨rfl, rfl⟩ := List.cons.inj k1
        have lb := ln b (k3 b (by simp))
        fail "i"
        refine w_ixT (xs := (b ++ [true]).map .bl) (Zr0 lb) ?_
        fail "g"
        exact ⟨done, [], rest2, rfl, k2, fun y hy => k3 y (by simp [hy]), g6, x6, _, _, rfl⟩
     ·subst e
      have kr : Zck = [] := by
       cases Zck with
       | nil => rfl
       | cons _ _ => cases k1
      subst kr
      rw [List.append_nil] at k2
      subst k2
      fail "g"
      exact ⟨m, _, _, rfl, by omega, g6, X5.new x6 (by simp; omega), _, _, _, _, rfl⟩
   ·subst e
    have hm : m = 0 := by cases m with | zero => rfl | succ m => cases i1
    subst hm
    fail "g"
    refine Zr5 (bs := []) (appL g4) (by simp [lvl]) ?_
    unfold WV
    have X := x4.trans (Fm.app [DO.lst [.str "all", .str "some"]])
    have fw : FW ks rss [] = Zbm (W ks rss (ks.length - ([] : List Bool).length) []) := rfl
    generalize W ks rss (ks.length - ([] : List Bool).length) [] = w at fw ⊢
    cases w with
    | true =>
     fail "g"
     have := q _ X
     rw [fw] at this
     exact this
    | false =>
     fail "g"
     have := q _ X
     rw [fw] at this
     exact this
variable {H H' : HD} {Q : D -> HD -> Prop} {ks : List D} {rss : List (List Int)} {pas : List (List (List Int))} {n pp pk pe pr : Nat} {es : List Nat} {ex : List (Nat × List D)}
structure KS (ex : List (Nat × List D)) (n pp pk pe pr : Nat) (es : List Nat) (ks : List D) (rss : List (List Int)) (pas : List (List (List Int))) (H : HD) : Prop where
 k : KP n pp ks rss pas H
 gk : H[pk]? = some (.lst [.ref pr, .ref pe])
 ge : H[pe]? = some (.lst (es.map .ref))
 gr : H[pr]? = some (.lst (rss.map Zan))
 le : es.length = pas.length
 gs : ∀ (i e : Nat) (r : List (List Int)), es[i]? = some e -> pas[i]? = some r -> H[e]? = some (.lst (r.map Zan))
 nd : (pr :: es).Nodup
 sep : ∀ x ∈ pr :: es, x ≠ n ∧ x ≠ pp ∧ x ≠ pk ∧ x ≠ pe
 kpp : pk ≠ pp
 epp : pe ≠ pp
 kpe : pk ≠ pe
 gx : ∀ y ∈ ex, H[y.1]? = some (.lst y.2) ∧ (y.1 ≠ n ∧ y.1 ≠ pp ∧ y.1 ≠ pk ∧ y.1 ≠ pe) ∧ y.1 ∉ pr :: es
theorem KS.kn (m : KS ex n pp pk pe pr es ks rss pas H) : pk ≠ n ∧ pe ≠ n := by
 constructor
 ·intro z
  have e := m.gk
  rw [z, m.k.g] at e
  cases e
 ·intro z
  have e := m.ge
  rw [z, m.k.g] at e
  cases e
theorem KS.keep (m : KS ex n pp pk pe pr es ks rss pas H) (x : Fm [] H H') : KS ex n pp pk pe pr es ks rss pas H' :=
 ⟨m.k.keep x, x.lst (by simp) m.gk, x.lst (by simp) m.ge, x.lst (by simp) m.gr, m.le, fun i e r h1 h2 => x.lst (by simp) (m.gs i e r h1 h2), m.nd, m.sep, m.kpp, m.epp, m.kpe, fun y hy => ⟨x.lst (by simp) (m.gx y hy).1, (m.gx y hy).2⟩⟩
theorem KS.lt (m : KS ex n pp pk pe pr es ks rss pas H) : pr < H.length ∧ pe < H.length ∧ pk < H.length ∧ n < H.length ∧ pp < H.length ∧ ∀ e ∈ es, e < H.length := by
 have l : ∀ {a : Nat} {o : DO}, H[a]? = some o -> a < H.length := fun h => (List.getElem?_eq_some_iff.mp h).1
 refine ⟨l m.gr, l m.ge, l m.gk, l m.k.g, l m.k.p, fun e he => ?_⟩
 obtain ⟨i, hi, e1⟩ := List.getElem_of_mem he
 exact l (m.gs i e (pas[i]'(by rw [← m.le]; exact hi)) (by rw [List.getElem?_eq_getElem hi, e1]) (List.getElem?_eq_getElem _))
theorem KS.held {S : List Nat} {H' : HD} (m : KS ex n pp pk pe pr es ks rss pas H) (x : Fm S H H') (hS : ∀ y ∈ S, y = n ∨ y = pp) : H'[pk]? = some (.lst [.ref pr, .ref pe]) ∧ H'[pe]? = some (.lst (es.map .ref)) ∧ H'[pr]? = some (.lst (rss.map Zan)) ∧ (∀ (i e : Nat) (r : List (List Int)), es[i]? = some e -> pas[i]? = some r -> H'[e]? = some (.lst (r.map Zan))) ∧ ∀ y ∈ ex, H'[y.1]? = some (.lst y.2) := by
 have s := m.sep
 have kn := m.kn
 have no : ∀ {y : Nat}, y ≠ n -> y ≠ pp -> y ∉ S := fun h1 h2 z => (hS _ z).elim h1 h2
 refine ⟨x.lst (no kn.1 m.kpp) m.gk, x.lst (no kn.2 m.epp) m.ge, x.lst (no (s pr (by simp)).1 (s pr (by simp)).2.1) m.gr, fun i e r h1 h2 => x.lst (no ?_ ?_) (m.gs i e r h1 h2), fun y hy => x.lst (no (m.gx y hy).2.1.1 (m.gx y hy).2.1.2.1) (m.gx y hy).1⟩
 ·exact (s e (by simp [List.mem_of_getElem? h1])).1
 ·exact (s e (by simp [List.mem_of_getElem? h1])).2.1
theorem Zno {p : Nat} {xs : List D} (g : H[p]? = some (.lst xs)) (q : Q (.ref H.length) (H ++ [.lst xs])) : wE (Zkf [.ref p] H) Q := ⟨_, _, by simp [Zkf, Zkw, g], q⟩
theorem KS.snap {rss' : List (List Int)} {H1 : HD} (m : KS ex n pp pk pe pr es ks rss pas H) (k' : KP n pp ks rss' (pas ++ [rss]) H1) (x : Fm [n, pp] H H1) : KS ex n pp pk pe pr (es ++ [H1.length]) ks rss' (pas ++ [rss]) (((H1 ++ [DO.lst (rss.map Zan)]).set pe (.lst ((es ++ [H1.length]).map .ref))).set pr (.lst (rss'.map Zan))) := by
 obtain ⟨gk, ge, gr, gs, gx⟩ := m.held x (by simp)
 obtain ⟨l1, l2, l3, l4, l5, l6⟩ := m.lt
 have lx := x.len
 have s := m.sep
 have spr := s pr (by simp)
 have ses : ∀ e ∈ es, e ≠ n ∧ e ≠ pp ∧ e ≠ pk ∧ e ≠ pe := fun e he => s e (by simp [he])
 have kn := m.kn
 obtain ⟨nd1, nd2⟩ := List.nodup_cons.mp m.nd
 have old : ∀ {a : Nat} {o : DO}, a ≠ pe -> a ≠ pr -> H1[a]? = some o -> (((H1 ++ [DO.lst (rss.map Zan)]).set pe (.lst ((es ++ [H1.length]).map .ref))).set pr (.lst (rss'.map Zan)))[a]? = some o := fun h1 h2 h3 => by
  rw [List.getElem?_set_ne (Ne.symm h2), List.getElem?_set_ne (Ne.symm h1)]; exact appL h3
 refine ⟨⟨old (Ne.symm kn.2) (Ne.symm spr.1) k'.g, old (Ne.symm m.epp) (Ne.symm spr.2.1) k'.p, k'.hk, k'.h8, k'.r, k'.ha, k'.lp⟩, old m.kpe (Ne.symm spr.2.2.1) gk, ?_, ?_, by simp [m.le], fun i e r h1 h2 => ?_, ?_, fun y hy => ?_, m.kpp, m.epp, m.kpe, fun y hy => ?_⟩
 ·rw [List.getElem?_set_ne spr.2.2.2]
  exact List.getElem?_set_self (by simp; omega)
 ·exact List.getElem?_set_self (by simp; omega)
 ·by_cases hi : i < es.length
  ·rw [List.getElem?_append_left hi] at h1
   rw [List.getElem?_append_left (by rw [← m.le]; exact hi)] at h2
   have he := List.mem_of_getElem? h1
   exact old (ses e he).2.2.2 (fun z => nd1 (z ▸ he)) (gs i e r h1 h2)
  ·rw [List.getElem?_append_right (by omega)] at h1
   rw [List.getElem?_append_right (by rw [← m.le]; omega), ← m.le] at h2
   have hz : i - es.length = 0 := by have := (List.getElem?_eq_some_iff.mp h1).1; simp at this; omega
   rw [hz] at h1 h2
   cases h1; cases h2
   rw [List.getElem?_set_ne (by omega), List.getElem?_set_ne (by omega)]
   exact last
 ·refine List.nodup_cons.mpr ⟨fun z => ?_, List.nodup_append.mpr ⟨nd2, by simp, fun a ha b hb e => ?_⟩⟩
  ·rcases List.mem_append.mp z with z | z
   ·exact nd1 z
   ·simp at z; omega
  ·simp at hb
   have := l6 a ha
   omega
 ·rcases List.mem_cons.mp hy with rfl | hy
  ·exact spr
  ·rcases List.mem_append.mp hy with hy | hy
   ·exact ses y hy
   ·simp at hy
    subst hy
    refine ⟨?_, ?_, ?_, ?_⟩ <;> omega
 ·obtain ⟨a1, a2, a3⟩ := m.gx y hy
  have ly : y.1 < H.length := (List.getElem?_eq_some_iff.mp a1).1
  refine ⟨old a2.2.2.2 (fun z => a3 (by simp [z])) (gx y hy), a2, fun z => ?_⟩
  rcases List.mem_cons.mp z with z | z
  ·exact a3 (by simp [z])
  ·rcases List.mem_append.mp z with z | z
   ·exact a3 (by simp [z])
   ·simp at z; omega
variable {H H' : HD} {Q : D -> HD -> Prop} {ks : List D} {rss : List (List Int)} {pas : List (List (List Int))} {n pp pk pe pr : Nat} {es : List Nat} {ex : List (Nat × List D)}
theorem Zwv {n : Nat} {g : GFs} {p : Nat} {ds : List D} {σ : SD} {Q : SD -> HD -> Prop} (e : H[p]? = some (.lst ds)) (hl : ds.length = n) (h : wG (g ds σ H) Q) : wG (gTl n g (.ref p) σ H) Q := by
 obtain ⟨s, H1, e1, q⟩ := h
 refine ⟨s, H1, ?_, q⟩
 unfold gTl
 dsimp only
 rw [e]
 dsimp only
 rw [if_pos hl]
 exact e1
noncomputable def Fst (pas : List (List (List Int))) (rss : List (List Int)) : Option (List (List Int)) := (pas ++ [rss]).head?
theorem Zjs (rss' : List (List Int)) : Fst (pas ++ [rss]) rss' = Fst pas rss := by
 unfold Fst
 cases pas <;> rfl
theorem KS.pop {e : Nat} {r : List (List Int)} {es0 : List Nat} {pas0 : List (List (List Int))} {H2 : HD} (m : KS ex n pp pk pe pr (es0 ++ [e]) ks rss (pas0 ++ [r]) H) (k' : KP n pp ks r pas0 H2) (x : Fm [n, pp] ((H.set pe (.lst (es0.map .ref))).set pk (.lst [.ref e, .ref pe])) H2) : KS ex n pp pk pe e es0 ks r pas0 H2 := by
 obtain ⟨l1, l2, l3, l4, l5, l6⟩ := m.lt
 have s := m.sep
 have kn := m.kn
 have le : es0.length = pas0.length := by have := m.le; simp at this; omega
 obtain ⟨nd1, nd2⟩ := List.nodup_cons.mp m.nd
 have nde := List.nodup_append.mp nd2
 have se := s e (by simp)
 have s0 : ∀ y ∈ es0, y ≠ n ∧ y ≠ pp ∧ y ≠ pk ∧ y ≠ pe := fun y hy => s y (by simp [hy])
 have old : ∀ {a : Nat} {xs : List D}, a ≠ pe -> a ≠ pk -> a ≠ n -> a ≠ pp -> H[a]? = some (.lst xs) -> H2[a]? = some (.lst xs) := fun h1 h2 h3 h4 h5 => x.lst (by simp [h3, h4]) (by rw [List.getElem?_set_ne (Ne.symm h2), List.getElem?_set_ne (Ne.symm h1)]; exact h5)
 refine ⟨k', x.lst (by simp [kn.1, m.kpp]) (List.getElem?_set_self (by simpa using l3)), x.lst (by simp [kn.2, m.epp]) (by rw [List.getElem?_set_ne m.kpe]; exact List.getElem?_set_self l2), ?_, le, fun i y z h1 h2 => ?_, ?_, fun y hy => ?_, m.kpp, m.epp, m.kpe, fun y hy => ?_⟩
 ·exact old se.2.2.2 se.2.2.1 se.1 se.2.1 (m.gs es0.length e r (by simp) (by rw [le]; simp))
 ·have hy := List.mem_of_getElem? h1
  have sy := s0 y hy
  have hi : i < es0.length := (List.getElem?_eq_some_iff.mp h1).1
  exact old sy.2.2.2 sy.2.2.1 sy.1 sy.2.1 (m.gs i y z (by rw [List.getElem?_append_left hi]; exact h1) (by rw [List.getElem?_append_left (by omega)]; exact h2))
 ·exact List.nodup_cons.mpr ⟨fun z => nde.2.2 e z e (by simp) rfl, nde.1⟩
 ·rcases List.mem_cons.mp hy with rfl | hy
  ·exact se
  ·exact s0 y hy
 ·obtain ⟨a1, a2, a3⟩ := m.gx y hy
  refine ⟨old a2.2.2.2 a2.2.2.1 a2.1 a2.2.1 a1, a2, fun z => a3 ?_⟩
  rcases List.mem_cons.mp z with z | z
  ·simp [z]
  ·simp [z]
theorem Zk4 {ls : List Int} (m : KS ex n pp pk pe pr es ks rss pas H) (u : Up ks.length 0 ls) (hp : pas.length < 90000) (q : ∀ es' rss' pas' H', KS ex n pp pk pe pr es' ks rss' pas' H' → pas'.length ≤ pas.length + 1 → Fst pas' rss' = Fst pas rss → Q (.bl true) H') : wE (Zbc [.ref n, .ref pk, .str "put", Zan ls] H) Q := by
 have l20 := m.k.r.1
 refine Zcf rfl ?_
 show wS (Zb3 [some (.ref n), some (.ref pk), some (.str "put"), some (Zan ls), none, none, none] H) _
 unfold Zb3
 refine w_seq (w_asg (w_var rfl (Zwv m.gk rfl ?_)))
 fail "i"
 fail "i"
 refine w_lenR m.gr ?_
 fail "g"
 refine ⟨fun h => ?_, fun h => ?_⟩
 ·have hl : rss.length = 20 := by simp at h; omega
  obtain ⟨e1, e2, e3⟩ := Zz4 m.k u hl
  fail "g"
  refine Zqu m.k (.inr (.inl ⟨rfl, rfl⟩)) e1 (.inr ⟨rfl, e2, e3⟩) fun H1 x1 => ?_
  fail "g"
  exact q es rss pas H1 (m.keep x1) (by omega) rfl
 ·have hl : rss.length < 20 := by simp at h; omega
  fail "g"
  refine Zea (w_var rfl ⟨n, _, rfl, m.k.g, rfl, ?_⟩)
  fail "g"
  refine ⟨rfl, Zve m.k u hl (by omega) fun H1 k1 x1 => ?_⟩
  obtain ⟨gk1, ge1, gr1, gs1⟩ := m.held x1 (by simp)
  fail "g"
  refine ⟨isl ge1, ?_⟩
  fail "g"
  refine Zno gr1 ?_
  fail "g"
  have le := m.le
  have spr := m.sep pr (by simp)
  have gB : ((H1 ++ [DO.lst (rss.map Zan)]).set pe (.lst (es.map D.ref ++ [.ref H1.length])))[pr]? = some (.lst (rss.map Zan)) := by
   rw [List.getElem?_set_ne (Ne.symm spr.2.2.2)]; exact appL gr1
  refine Zg3 (appL ge1) (by simp; omega) ?_
  fail "g"
  refine ⟨isl gB, ?_⟩
  fail "g"
  refine Zg3 gB (by simp; omega) ?_
  fail "g"
  have k2 := m.snap k1 x1
  rw [List.map_append] at k2
  have e2 : rss.map Zan ++ [Zan ls] = (rss ++ [ls]).map Zan := by simp
  rw [e2]
  refine w_lenR k2.gr ?_
  fail "g"
  rw [show ((rss.length : Int) == ((rss ++ [ls]).map Zan).length - 1) = true by simp]
  exact q _ _ _ _ k2 (by simp) (Zjs _)
theorem Zwd {p : Nat} {xs : List D} {v : D} {i : Nat} {S : HD -> Prop} (g : H[p]? = some (.lst xs)) (hi : i < xs.length) (q : S (H.set p (.lst (xs.set i v)))) : wH (Zzh (.ref p) (.int i) v H) S := by
 refine ⟨_, ?_, q⟩
 simp only [Zzh, g]
 unfold ixN
 simp [hi]
theorem Yaq {p k : Nat} (g : H[p]? = some (.lst (rss.map Zan))) (hk : k < rss.length) (hl : rss.length ≤ 1000) (q : Q (Zan rss[k]) (H.set p (.lst ((rss.eraseIdx k).map Zan)))) : wE (Zzk (.ref p) [.int k] H) Q := by
 refine ⟨_, _, ?_, q⟩
 unfold Zzk
 simp only [g]
 rw [if_pos ⟨by omega, by omega⟩]
 have e : seqIndex? (k : Int) (rss.map Zan).length = some k := by
  unfold seqIndex?
  rw [List.length_map]
  simp only [show ¬ ((k : Int) < 0) by omega, if_false]
  rw [if_pos (by simp; omega)]
  simp
 rw [e]
 have e2 : (rss.map Zan).eraseIdx k = (rss.eraseIdx k).map Zan := by
  rw [List.eraseIdx_eq_take_drop_succ, List.eraseIdx_eq_take_drop_succ, List.map_append, List.map_take, List.map_drop]
 simp [hk, e2]
theorem KS.of {Ha H' : HD} (m : KS ex n pp pk pe pr es ks rss pas Ha) (k' : KP n pp ks rss pas H') (x : ∀ (a : Nat) (xs : List D), a ≠ n -> a ≠ pp -> Ha[a]? = some (.lst xs) -> H'[a]? = some (.lst xs)) : KS ex n pp pk pe pr es ks rss pas H' := by
 have s := m.sep
 have kn := m.kn
 have spr := s pr (by simp)
 refine ⟨k', x _ _ kn.1 m.kpp m.gk, x _ _ kn.2 m.epp m.ge, x _ _ spr.1 spr.2.1 m.gr, m.le, fun i e r h1 h2 => ?_, m.nd, m.sep, m.kpp, m.epp, m.kpe, fun y hy => ⟨x _ _ (m.gx y hy).2.1.1 (m.gx y hy).2.1.2.1 (m.gx y hy).1, (m.gx y hy).2⟩⟩
 have se := s e (by simp [List.mem_of_getElem? h1])
 exact x _ _ se.1 se.2.1 (m.gs i e r h1 h2)
theorem KS.snap2 {rss' : List (List Int)} {H' : HD} (m : KS ex n pp pk pe pr es ks rss pas H) (ho : OkR ks.length rss') (hp : pas.length < 100000) (k' : KP n pp ks rss' (pas ++ [rss]) H') (x : Fm [n, pp] (((H ++ [DO.lst (rss.map Zan)]).set pe (.lst ((es ++ [H.length]).map .ref))).set pr (.lst (rss'.map Zan))) H') : KS ex n pp pk pe pr (es ++ [H.length]) ks rss' (pas ++ [rss]) H' := by
 have k1 := m.k.set (rss' := rss') (pas' := pas ++ [rss]) ho (fun y hy => (List.mem_append.mp hy).elim (m.k.ha y) fun h => by simp at h; subst h; exact m.k.r) (by simp; omega)
 have m1 := m.snap k1 ((Fm.set (by simp)).trans (.set (by simp)))
 rw [List.length_set, List.length_set] at m1
 refine m1.of k' fun a xs h1 h2 h3 => x.lst (by simp [h1, h2]) ?_
 rw [← h3]
 simp only [List.getElem?_set, List.getElem?_append, List.length_append, List.length_set, List.length_cons, List.length_nil]
 simp only [Ne.symm h1, Ne.symm h2, if_false]
theorem Zpz {i : Nat} (m : KS ex n pp pk pe pr es ks rss pas H) (hi : i < rss.length) (hp : pas.length < 90000) (q : ∀ es' rss' pas' H', KS ex n pp pk pe pr es' ks rss' pas' H' → pas'.length ≤ pas.length + 1 → Fst pas' rss' = Fst pas rss → Q (.bl true) H') : wE (Zbc [.ref n, .ref pk, .str "out", .int i] H) Q := by
 have l20 := m.k.r.1
 have le := m.le
 refine Zcf rfl ?_
 show wS (Zb3 [some (.ref n), some (.ref pk), some (.str "out"), some (.int i), none, none, none] H) _
 unfold Zb3
 refine w_seq (w_asg (w_var rfl (Zwv m.gk rfl ?_)))
 fail "i"
 fail "i"
 refine ⟨isl m.ge, ?_⟩
 fail "g"
 refine Zno m.gr ?_
 fail "g"
 refine Zg3 (appL m.ge) (by simp; omega) ?_
 have spr := m.sep pr (by simp)
 have gB : ((H ++ [DO.lst (rss.map Zan)]).set pe (.lst (es.map D.ref ++ [.ref H.length])))[pr]? = some (.lst (rss.map Zan)) := by
  rw [List.getElem?_set_ne (Ne.symm spr.2.2.2)]; exact appL m.gr
 fail "g"
 refine ⟨isl gB, ?_⟩
 fail "g"
 refine Yaq gB hi (by omega) ?_
 fail "g"
 have e2 : es.map D.ref ++ [.ref H.length] = (es ++ [H.length]).map D.ref := by simp
 rw [e2]
 have xn : Fm [pe, pr] H (((H ++ [DO.lst (rss.map Zan)]).set pe (.lst ((es ++ [H.length]).map .ref))).set pr (.lst ((rss.eraseIdx i).map Zan))) := ((Fm.app _).trans (.set (by simp))).trans (.set (by simp))
 have kn := m.kn
 have k0 := m.k.sub xn (by simp [Ne.symm kn.2, Ne.symm spr.1]) (by simp [Ne.symm m.epp, Ne.symm spr.2.1])
 refine Zea (w_var rfl ⟨n, _, rfl, k0.g, rfl, ?_⟩)
 fail "g"
 refine ⟨rfl, Zvi k0 hi (by omega) fun H1 k1 x1 => ?_⟩
 fail "g"
 exact q _ _ _ _ (m.snap2 ⟨Nat.le_trans (List.length_eraseIdx_le _ _) l20, fun y hy => m.k.r.2 y (List.mem_of_mem_eraseIdx hy)⟩ (by omega) k1 x1) (by simp) (Zjs _)
theorem Zkp : ∀ es : List Nat, (∀ e ∈ es, ∃ r : List (List Int), H[e]? = some (.lst (r.map Zan))) -> ∃ xs, Zgo H 29 (es.map .ref) = some xs ∧ PyData.canLayAll0 xs = true ∧ PyData.depthAll xs ≤ 2 ∧ xs.length = es.length
 | [], _ => ⟨[], by rw [List.map_nil, Zgo], rfl, Nat.zero_le _, rfl⟩
 | e :: es, h => by
  obtain ⟨xs, a1, a2, a3, a4⟩ := Zkp es fun y hy => h y (by simp [hy])
  obtain ⟨r, g⟩ := h e (by simp)
  have f := Zf4 r
  refine ⟨.list (r.map fun ls => .tuple (ls.map .int)) :: xs, ?_, ?_, ?_, by simp [a4]⟩
  ·rw [List.map_cons, Zgo, a1, toP]
   simp only [g]
   rw [f.to]; rfl
  ·rw [PyData.canLayAll0, a2, PyData.canLay0, f.lay]; rfl
  ·simp only [PyData.depthAll]
   exact Nat.max_le.mpr ⟨Nat.succ_le_succ f.dep, a3⟩
theorem KS.dat (m : KS ex n pp pk pe pr es ks rss pas H) (L : DO) : ∃ xs, DL.dat (.ref pe) (H ++ [L]) = some (.list xs) ∧ xs.length = es.length := by
 obtain ⟨xs, a1, a2, a3, a4⟩ := Zkp (H := H ++ [L]) es fun e he => by
  obtain ⟨i, hi, e1⟩ := List.getElem_of_mem he
  exact ⟨_, appL (m.gs i e (pas[i]'(by rw [← m.le]; exact hi)) (by rw [List.getElem?_eq_getElem hi, e1]) (List.getElem?_eq_getElem _))⟩
 refine ⟨xs, ?_, a4⟩
 unfold DL.dat
 rw [toP]
 simp only [appL m.ge (u := L)]
 rw [a1]
 have : (PyData.list xs).depth ≤ 30 := Nat.le_trans (Nat.succ_le_succ a3) (by omega)
 have h2 : (PyData.list xs).canLay0 = true := a2
 simp [okP, h2, this]
theorem Zi1 {d : D} (m : KS ex n pp pk pe pr es ks rss pas H) (q : ∀ pr' es' rss' pas' H', KS ex n pp pk pe pr' es' ks rss' pas' H' → pas'.length = pas.length - 1 → Fst pas' rss' = Fst pas rss → Q (.bl true) H') : wE (Zbc [.ref n, .ref pk, .str "back", d] H) Q := by
 refine Zcf rfl ?_
 show wS (Zb3 [some (.ref n), some (.ref pk), some (.str "back"), some d, none, none, none] H) _
 unfold Zb3
 refine w_seq (w_asg (w_var rfl (Zwv m.gk rfl ?_)))
 fail "i"
 fail "i"
 fail "i"
 obtain ⟨xs, d1, d2⟩ := m.dat (DO.lst [])
 refine ⟨_, _, Zmc d1 (Fines.dat (h := 0) Fines.nil (by omega) last), ?_⟩
 have ek : PyData.eqv (.list xs) (.list []) = decide (pas = []) := by
  rw [m.le] at d2
  cases xs with
  | nil => rw [PyData.eqv, PyData.eqvAll, List.eq_nil_of_length_eq_zero d2.symm]; rfl
  | cons a r =>
   have : pas ≠ [] := fun z => by rw [z] at d2; cases d2
   simp [PyData.eqv, PyData.eqvAll, this]
 rw [ek]
 fail "g"
 have x0 : Fm [] H (H ++ [DO.lst []]) := .app _
 have m0 := m.keep x0
 generalize H ++ [DO.lst []] = H0 at m0 ⊢
 refine ⟨fun h => ?_, fun h => ?_⟩
 ·have hl : pas = [] := by simpa using h
  subst hl
  fail "g"
  refine Zwi m0.k fun H1 x1 => ?_
  fail "g"
  exact q pr es rss [] H1 (m0.keep x1) rfl rfl
 ·have hl : pas ≠ [] := by simpa using h
  obtain ⟨pas0, r, rfl⟩ : ∃ b t, pas = b ++ [t] := ⟨pas.dropLast, pas.getLast hl, (List.dropLast_concat_getLast hl).symm⟩
  have hz : es ≠ [] := fun z => by have := m0.le; rw [z] at this; simp at this
  obtain ⟨es0, e, rfl⟩ : ∃ b t, es = b ++ [t] := ⟨es.dropLast, es.getLast hz, (List.dropLast_concat_getLast hz).symm⟩
  have ge := m0.ge
  rw [List.map_append] at ge
  fail "g"
  refine Zye (w_var rfl ⟨isl m0.ge, Zvf ge ?_⟩)
  have gk : (H0.set pe (.lst (es0.map .ref)))[pk]? = some (.lst [.ref pr, .ref pe]) := by rw [List.getElem?_set_ne (Ne.symm m.kpe)]; exact m0.gk
  refine w_gsb ?_
  fail "g"
  refine Zwd (i := 0) gk (by simp) ?_
  fail "g"
  have xn : Fm [pe, pk] H0 ((H0.set pe (.lst (es0.map .ref))).set pk (.lst [.ref e, .ref pe])) := (Fm.set (by simp)).trans (.set (by simp))
  have kn := m.kn
  have k0 := m0.k.sub xn (by simp [Ne.symm kn.2, Ne.symm kn.1]) (by simp [Ne.symm m.epp, Ne.symm m.kpp])
  refine Zea (w_var rfl ⟨n, _, rfl, k0.g, rfl, w_anil ⟨rfl, Zpu k0 fun H1 k1 x1 => ?_⟩⟩)
  fail "g"
  exact q e es0 r pas0 H1 (m0.pop k1 x1) (by simp) (Zjs _).symm
variable {H H' : HD} {Q : D -> HD -> Prop} {ks : List D} {rss : List (List Int)} {pas : List (List (List Int))} {n pp pk pe pr : Nat} {es : List Nat} {ex : List (Nat × List D)}
theorem Zo1 {p : Nat} {ds : List Int} {k : Nat} (g : H[p]? = some (.lst (ds.map .int))) (q : Q (.ref H.length) (H ++ [.lst ((ds.drop k).map .int)])) : wE (slD (.ref p) (some (k : Int)) none H) Q :=
 ⟨_, _, by rw [List.map_drop, ← Zvd]; simp only [slD, g], q⟩
theorem Zoq.drop {ds : List Int} (h : Zoq ds) (k : Nat) : Zoq (ds.drop k) := fun d hd => h d (List.mem_of_mem_drop hd)
theorem Zt6 {cell : Int} (m : KS ex n pp pk pe pr es ks rss pas H) (hp : pas.length < 90000) (q : ∀ pr' es' rss' pas' H', KS ex n pp pk pe pr' es' ks rss' pas' H' -> pas'.length ≤ pas.length + 1 -> Fst pas' rss' = Fst pas rss -> Q (.bl true) H') : wE (Zgm [.ref n, .ref pk, .int ks.length, .int cell] H) Q := by
 have l20 := m.k.r.1
 have h8 := m.k.h8
 refine Zcf rfl ?_
 show wS (Zd0 [some (.ref n), some (.ref pk), some (.int ks.length), some (.int cell), none, none] H) _
 unfold Zd0
 fail "g"
 refine Zg5 (many := 24) (by omega) fun ds p H1 hl hd g _ x1 => ?_
 fail "g"
 refine Zo1 (k := 14) g ?_
 have g2 : (H1 ++ [DO.lst ((ds.drop 14).map .int)])[H1.length]? = some (.lst ((ds.drop 14).map .int)) := last
 have m2 := m.keep (x1.trans (.app [DO.lst ((ds.drop 14).map .int)]))
 have hd2 := hd.drop 14
 have hl2 : (ds.drop 14).length = 10 := by simp [hl]
 fail "g"
 generalize H1 ++ [DO.lst ((ds.drop 14).map .int)] = H2 at g2 m2 ⊢
 generalize H1.length = p2 at g2 ⊢
 generalize ds.drop 14 = cs at g2 hd2 hl2 ⊢
 obtain ⟨c0, c1, cr, rfl⟩ : ∃ c0 c1 cr, cs = c0 :: c1 :: cr := by
  match cs, hl2 with
  | c0 :: c1 :: cr, _ => exact ⟨c0, c1, cr, rfl⟩
 refine w_ixR g2 (Zaz (j := 0) rfl) ?_
 fail "g"
 (refine WP.w_if ?_; fail "g")
 refine ⟨fun h => ?_, fun h => ?_⟩
 ·fail "g"
  refine Zki h8 fun ls H3 u x3 => ?_
  fail "g"
  exact Zk4 (m2.keep x3) u hp fun es' rss' pas' H' m' l' f' => q _ _ _ _ _ m' l' f'
 fail "i"
 refine ⟨fun h => ?_, fun h => ?_⟩
 ·fail "g"
  refine Zo1 (k := 1) g2 ?_
  fail "g"
  refine Zny h8 last (hd2.drop 1) (by simp at hl2 ⊢; omega) fun d H3 b x3 => ?_
  have m3 := (m2.keep (.app _)).keep x3
  fail "g"
  exact Zhl m3.k b.t (by omega) (by omega) (.inl ⟨rfl, b.row⟩) fun H4 x4 => q _ _ _ _ _ (m3.keep x4) (by omega) rfl
 fail "i"
 refine ⟨fun h => ?_, fun h => ?_⟩
 ·fail "g"
  refine w_ixR m2.gk (Zaz (j := 0) rfl) ?_
  fail "g"
  refine w_lenR m2.gr ?_
  fail "g"
  refine Zo1 (k := 1) g2 ?_
  fail "g"
  rw [List.length_map]
  refine Zts l20 last (hd2.drop 1) (by simp) fun d H3 t b x3 => ?_
  have m3 := (m2.keep (.app _)).keep x3
  fail "g"
  exact Zhl m3.k t (by omega) (by omega) (.inr ⟨rfl, b⟩) fun H4 x4 => q _ _ _ _ _ (m3.keep x4) (by omega) rfl
 fail "i"
 have bk : ∀ H3, KS ex n pp pk pe pr es ks rss pas H3 → wE (Zbc [.ref n, .ref pk, .str "back", .non] H3) Q := fun H3 m3 => Zi1 m3 fun pr' es' rss' pas' H' m' l' f' => q _ _ _ _ _ m' (by omega) f'
 refine ⟨fun h => ?_, fun h => ?_⟩
 ·fail "g"
  refine w_ixR m2.gk (Zaz (j := 0) rfl) ?_
  fail "g"
  refine ⟨_, _, Zrc (Fines.dat (Zf4 rss) (by omega) (appL m2.gr)) (Fines.dat (h := 0) Fines.nil (by omega) last), ?_⟩
  have m3 := m2.keep (.app [DO.lst []])
  have g3 := appL (u := DO.lst []) g2
  generalize H2 ++ [DO.lst []] = H3 at m3 g3 ⊢
  fail "g"
  refine ⟨fun h => ?_, fun h => ?_⟩
  ·have hz : 0 < rss.length := by
    cases rss with
    | nil => simp [PyData.eqv, PyData.eqvAll] at h
    | cons _ _ => simp
   fail "g"
   refine w_ixR g3 (Zaz (j := 1) rfl) ?_
   fail "g"
   refine w_ixR m3.gk (Zaz (j := 0) rfl) ?_
   fail "g"
   refine w_lenR m3.gr ?_
   rw [List.length_map]
   fail "g"
   refine w_mod (by omega) ?_
   fail "g"
   have c1p := (hd2 c1 (by simp)).1
   obtain ⟨i, ei⟩ : ∃ i : Nat, c1 % (rss.length : Int) = i := ⟨(c1 % (rss.length : Int)).toNat, (Int.toNat_of_nonneg (Int.emod_nonneg _ (by omega))).symm⟩
   have il : i < rss.length := by have := Int.emod_lt_of_pos c1 (show (0 : Int) < rss.length by omega); omega
   rw [ei]
   exact Zpz m3 il hp fun es' rss' pas' H' m' l' f' => q _ _ _ _ _ m' l' f'
  ·fail "g"
   exact bk _ m3
 ·fail "g"
  exact bk _ m2
theorem Zeu (m : KS ex n pp pk pe pr es ks rss pas H) (q : ∀ H', Fm [] H H' -> Q (.bl true) H') : wE (Zbw [.ref n, .tup ks, .ref pk] H) Q := by
 refine Zcf rfl ?_
 show wS (Zc6 [some (.ref n), some (.tup ks), some (.ref pk), none] H) _
 unfold Zc6
 fail "g"
 refine Zea (w_var rfl ⟨n, _, rfl, m.k.g, rfl, w_anil ⟨rfl, Zg9 m.k ?_⟩⟩)
 fail "i"
 refine w_ixR m.gk (Zaz (j := 0) rfl) ?_
 fail "g"
 refine w_tupR m.gr ?_
 fail "g"
 obtain ⟨y, f⟩ := Zis (rss := rss) m.k.hk
 refine Zxs f f (by omega) (by omega) ?_
 rw [Zft y f.lay]
 fail "g"
 exact q H .refl
noncomputable def alt (ls : List Int) (m : Nat) : List (List Int) := if m % 2 = 0 then [] else [ls]
noncomputable def Zrm (ls : List Int) : Nat -> List (List (List Int))
 | 0 => []
 | m + 1 => Zrm ls m ++ [alt ls m]
theorem Zke (ls : List Int) : ∀ m, (Zrm ls m).length = m
 | 0 => rfl
 | m + 1 => by rw [Zrm, List.length_append, Zke ls m]; rfl
theorem Ztp {cell : Int} (k0 : KP n pp ks [] [] H) (q : ∀ H', KP n pp ks [] [] H' -> Q (.bl true) H') : wE (Zes [.ref n, .int ks.length, .int cell] H) Q := by
 have h8 := k0.h8
 refine Zcf rfl ?_
 show wS (Zdw [some (.ref n), some (.int ks.length), some (.int cell), none, none, none] H) _
 unfold Zdw
 fail "g"
 refine Zki h8 fun ls H1 u x1 => ?_
 have k1 := k0.keep x1
 fail "g"
 obtain ⟨R, hR, eR⟩ : ∃ R : Nat, R ≤ 200 ∧ 50 + cell % 80 = R := ⟨(50 + cell % 80).toNat, by omega, by omega⟩
 rw [eR]
 fail "g"
 refine ⟨R, rfl, by unfold Zgs; omega, ?_⟩
 refine Zdf (fun d t σ H' => ∃ z, KP n pp ks [] (Zrm ls (2 * d.length)) H' ∧ d.length + t.length = R ∧ σ = [some (.ref n), some (.int ks.length), some (.int cell), some (Zan ls), some (.int R), z]) (fun _ _ _ _ _ => Zpw) (fun d x t σ H2 ⟨z, i1, i2, i3⟩ => ?_) (fun d σ H2 ⟨z, i1, i2, i3⟩ => ?_) _ [] _ _ ⟨none, k1, by simp [Zau], rfl⟩
 ·subst i3
  simp at i2
  refine ⟨_, _, rfl, ?_⟩
  fail "i"
  refine Zea (w_var rfl ⟨n, _, rfl, i1.g, rfl, ?_⟩)
  fail "g"
  refine ⟨rfl, Zve i1 u (by simp) (by rw [Zke]; omega) fun H3 k3 x3 => ?_⟩
  fail "g"
  refine Zea (w_var rfl ⟨n, _, rfl, k3.g, rfl, ?_⟩)
  fail "g"
  refine ⟨rfl, Zvi (i := 0) k3 (by simp) (by simp [Zke]; omega) fun H4 k4 x4 => ?_⟩
  fail "g"
  refine ⟨_, ?_, by simp; omega, rfl⟩
  have e1 : alt ls (2 * d.length) = [] := by unfold alt; rw [if_pos (by omega)]
  have e2 : alt ls (2 * d.length + 1) = [ls] := by unfold alt; rw [if_neg (by omega)]
  have e : Zrm ls (2 * (d ++ [x]).length) = Zrm ls (2 * d.length) ++ [[]] ++ [[ls]] := by
   rw [show 2 * (d ++ [x]).length = 2 * d.length + 1 + 1 by simp; omega, Zrm, Zrm, e1, e2]
  rw [e]
  exact k4
 ·subst i3
  simp at i2
  fail "g"
  refine ⟨2 * R, rfl, by unfold Zgs; omega, ?_⟩
  have j1 : KP n pp ks (alt ls (2 * R - ([] : List D).length)) (Zrm ls (2 * R - ([] : List D).length)) H2 := by
   rw [i2] at i1
   rw [show alt ls (2 * R - ([] : List D).length) = [] by unfold alt; rw [if_pos (by simp)]]
   exact i1
  clear i1 i2
  refine Zdf (fun d t σ H' => ∃ z, KP n pp ks (alt ls (2 * R - d.length)) (Zrm ls (2 * R - d.length)) H' ∧ d.length + t.length = 2 * R ∧ (∀ i : Nat, ∀ x, t[i]? = some x -> x = .int (d.length + i : Nat)) ∧ σ = [some (.ref n), some (.int ks.length), some (.int cell), some (Zan ls), some (.int R), z]) (fun _ _ _ _ _ => Zpw) (fun d x t σ H2 ⟨z, i1, i2, i4, i3⟩ => ?_) (fun d σ H2 ⟨z, i1, i2, i4, i3⟩ => ?_) _ [] _ _ ⟨z, j1, by simp [Zau]; omega, fun i x h => by rw [(Zi4 h).2]; simp, rfl⟩
  ·subst i3
   simp at i2
   have ex := i4 0 x rfl
   subst ex
   obtain ⟨M, eM⟩ : ∃ M, 2 * R - d.length = M + 1 := ⟨2 * R - d.length - 1, by omega⟩
   refine ⟨_, _, rfl, ?_⟩
   rw [eM] at i1
   rw [Zrm] at i1
   fail "i"
   refine Zea (w_var rfl ⟨n, _, rfl, i1.g, rfl, w_anil ⟨rfl, Zg9 i1 ?_⟩⟩)
   unfold Zkz
   fail "g"
   refine w_ixR last (show atI [D.tup [], D.tup [Zan ls]] _ = some (.tup ((alt ls (M + 1)).map Zan)) from ?_) ?_
   ·unfold alt
    by_cases hh : (M + 1) % 2 = 0
    ·rw [if_pos hh, show ((d.length + 0 : Nat) : Int) % 2 = ((0 : Nat) : Int) by omega]
     exact Zaz rfl
    ·rw [if_neg hh, show ((d.length + 0 : Nat) : Int) % 2 = ((1 : Nat) : Int) by omega]
     exact Zaz rfl
   have f := Fine.tup (Zf4 (alt ls (M + 1)))
   refine Zua f f (by omega) (by omega) ?_
   rw [Zft _ f.lay]
   have k2 := i1.keep (.app [DO.lst [D.tup [], D.tup [Zan ls]]])
   fail "g"
   refine Zea (w_var rfl ⟨n, _, rfl, k2.g, rfl, w_anil ⟨rfl, Zpu k2 fun H3 k3 x3 => ?_⟩⟩)
   fail "g"
   refine ⟨_, ?_, by simp; omega, fun i x h => ?_, rfl⟩
   ·rw [show 2 * R - (d ++ [D.int (d.length + 0 : Nat)]).length = M by simp; omega]
    exact k3
   ·rw [i4 (i + 1) x h]
    simp; omega
  ·subst i3
   simp at i2
   have e0 : 2 * R - d.length = 0 := by omega
   rw [e0] at i1
   fail "g"
   exact q H2 i1
variable {H H' : HD} {Q : D -> HD -> Prop} {ks : List D} {rss : List (List Int)} {pas : List (List (List Int))} {n pp pk pe pr : Nat} {es : List Nat} {ex : List (Nat × List D)}
theorem Zvt {xs : List D} (q : Q (.ref H.length) (H ++ [.lst xs])) : wE (Zkf [.fl xs] H) Q := ⟨_, _, by simp [Zkf, Zkw], q⟩
theorem KS.start {p1 : Nat} {xs : List D} (k : KP n pp ks [] [] H) (g : H[p1]? = some (.lst xs)) (hp : p1 ≠ pp) : KS [(p1, xs)] n pp (H ++ [DO.lst []] ++ [DO.lst []]).length (H ++ [DO.lst []]).length H.length [] ks [] [] (H ++ [DO.lst []] ++ [DO.lst []] ++ [DO.lst [.ref H.length, .ref (H ++ [DO.lst []]).length]]) := by
 have l1 : p1 < H.length := (List.getElem?_eq_some_iff.mp g).1
 have l2 : n < H.length := (List.getElem?_eq_some_iff.mp k.g).1
 have l3 : pp < H.length := (List.getElem?_eq_some_iff.mp k.p).1
 have hn : p1 ≠ n := fun z => by rw [z, k.g] at g; cases g
 refine ⟨((k.keep (.app _)).keep (.app _)).keep (.app _), last, appL last, appL (appL last), rfl, fun i e r h => (by cases h), by simp, fun x hx => ?_, ?_, ?_, ?_, fun y hy => ?_⟩
 ·simp at hx; subst hx; refine ⟨?_, ?_, ?_, ?_⟩ <;> simp <;> omega
 ·simp; omega
 ·simp; omega
 ·simp
 ·simp at hy; subst hy
  refine ⟨appL (appL (appL g)), ⟨hn, hp, ?_, ?_⟩, ?_⟩ <;> simp <;> omega
theorem KS.more {p : Nat} {xs : List D} (m : KS ex n pp pk pe pr es ks rss pas H) (x : Fm [] H H') (g : H'[p]? = some (.lst xs)) (l : H.length ≤ p) : KS ((p, xs) :: ex) n pp pk pe pr es ks rss pas H' := by
 obtain ⟨l1, l2, l3, l4, l5, l6⟩ := m.lt
 have m' := m.keep x
 refine ⟨m'.k, m'.gk, m'.ge, m'.gr, m'.le, m'.gs, m'.nd, m'.sep, m'.kpp, m'.epp, m'.kpe, fun y hy => ?_⟩
 rcases List.mem_cons.mp hy with rfl | hy
 ·refine ⟨g, ⟨?_, ?_, ?_, ?_⟩, fun z => ?_⟩
  ·show p ≠ n; omega
  ·show p ≠ pp; omega
  ·show p ≠ pk; omega
  ·show p ≠ pe; omega
  ·rcases List.mem_cons.mp z with z | z
   ·have z : p = pr := z
    omega
   ·have := l6 _ z
    have : p < H.length := this
    omega
 ·exact m'.gx y hy
theorem KS.less {y : Nat × List D} (m : KS (y :: ex) n pp pk pe pr es ks rss pas H) : KS ex n pp pk pe pr es ks rss pas H :=
 ⟨m.k, m.gk, m.ge, m.gr, m.le, m.gs, m.nd, m.sep, m.kpp, m.epp, m.kpe, fun z hz => m.gx z (by simp [hz])⟩
noncomputable abbrev sg (ns : List Int) (p1 : Nat) (ks : List D) (n pk : Nat) (z5 z6 z7 z8 : Option D) : SD := [some (.fl (ns.map .int)), some (.ref p1), some (.tup ks), some (.ref n), some (.ref pk), z5, z6, z7, z8]
noncomputable def lt5 : SF := (Zaf (Zbh (eOp eqD (Zdd "Keeper" "claim" 1 Za9 (Zac 3) Zae) (Zdg (Zaa (Zac 2) (Zaa (Zdg Zae) Zae)))))
 Zah)
noncomputable def lt4 : SF :=
 (Zaf (Zev (iR1 (Zaa (eOp Zbn (eCB Zdk (Zaa (eOp ixD (Zac 4) (eC (.int 1))) Zae)) (eC (.int 1))) Zae)) (gNm 6) (Zaf (sIf (tNo (Zeq (Zai 4 Zbc (Zaa (Zac 3) (Zaa (Zac 4) (Zaa (eC (.str "back")) (Zaa (eC .non) Zae))))))) (Zaf (Zbh (eC (.bl false)))
 Zah) Zah)
 (Zaf (sIf (tAn (tOf (eOp eqD (eOp Zdq (Zac 6) (eC (.int 3))) (eOp Zdq (eOp ixD (Zac 1) (eC (.int 11))) (eC (.int 3))))) (tNo (Zeq (Zai 3 Zbw (Zaa (Zac 3) (Zaa (Zac 2) (Zaa (Zac 4) Zae))))))) (Zaf (Zbh (eC (.bl false)))
 Zah) Zah)
 Zah)))
 (Zaf (sIf (tAn (tOf (eOp eqD (eOp Zdq (Zai 2 Zd4 (Zaa (Zac 0) (Zaa (eC (.int 0)) Zae))) (eC (.int 4))) (eC (.int 1)))) (tNo (Zeq (Zai 3 Zes (Zaa (Zac 3) (Zaa (eCB Zdk (Zaa (Zac 2) Zae)) (Zaa (Zai 2 Zd4 (Zaa (Zac 0) (Zaa (eC (.int 1)) Zae))) Zae))))))) (Zaf (Zbh (eC (.bl false)))
 Zah) Zah)
 lt5))
theorem w_lt4 {ns ds : List Int} {p1 : Nat} {z5 z6 z7 z8 : Option D} (m : KS [(p1, ds.map .int)] n pp pk pe pr es ks rss pas H) (hp : pas.length ≤ 100) (hf : Fst pas rss = some []) (hl : ds.length = 12) : wS (lt4 (sg ns p1 ks n pk z5 z6 z7 z8) H) (fin fun d _ => d = .bl true) := by
 have h8 := m.k.h8
 have le := m.le
 unfold lt4
 fail "g"
 refine w_ixR m.gk (Zaz (j := 1) rfl) ?_
 fail "g"
 refine w_lenR m.ge ?_
 rw [List.length_map, le]
 fail "g"
 refine ⟨_, rfl, by unfold Zgs; omega, ?_⟩
 have rl : (Zau 0 ((pas.length : Int) + 1).toNat).length = pas.length + 1 := by simp [Zau]
 have ri : ∀ x ∈ Zau 0 ((pas.length : Int) + 1).toNat, ∃ i : Int, x = .int i := fun x hx => by
  simp only [Zau, List.mem_map] at hx
  obtain ⟨i, _, rfl⟩ := hx
  exact ⟨_, rfl⟩
 generalize Zau 0 ((pas.length : Int) + 1).toNat = rg at rl ri ⊢
 generalize hP : pas.length = P at rl hp ⊢
 refine Zdf (fun d t σ H' => ∃ pr es rss pas z6, KS [(p1, ds.map .int)] n pp pk pe pr es ks rss pas H' ∧ pas.length = P - d.length ∧ d.length + t.length = P + 1 ∧ Fst pas rss = some [] ∧ (∀ x ∈ t, ∃ i : Int, x = .int i) ∧ σ = sg ns p1 ks n pk z5 z6 z7 z8) (fun _ _ _ _ _ => Zpw) (fun d x t σ H2 ⟨pr, es, rss, pas, z6, m, i1, i2, i3, i4, i5⟩ => ?_) (fun d σ H2 ⟨pr, es, rss, pas, z6, m, i1, i2, i3, i4, i5⟩ => ?_) _ [] _ _ ⟨pr, es, rss, pas, z6, m, by simpa using hP, by simpa using rl, hf, ri, rfl⟩
 ·obtain ⟨k, rfl⟩ := i4 x (by simp)
  subst i5
  simp at i2
  refine ⟨_, _, rfl, ?_⟩
  fail "i"
  refine Zi1 m fun pr' es' rss' pas' H3 m3 l3 f3 => ?_
  fail "i"
  refine w_ixR (m3.gx _ (List.mem_cons_self ..)).1 (Zaz (j := 11) (by rw [List.getElem?_map, List.getElem?_eq_getElem (by omega)]; rfl)) ?_
  fail "g"
  refine ⟨fun h => ?_, fun h => ?_⟩
  ·fail "g"
   refine Zeu m3 fun H5 x5 => ?_
   fail "g"
   exact ⟨pr', es', rss', pas', _, m3.keep x5, by simp; omega, by simp; omega, f3.trans i3, fun y hy => i4 y (by simp [hy]), rfl⟩
  ·fail "g"
   exact ⟨pr', es', rss', pas', _, m3, by simp; omega, by simp; omega, f3.trans i3, fun y hy => i4 y (by simp [hy]), rfl⟩
 ·subst i5
  simp at i2
  obtain rfl : pas = [] := List.eq_nil_of_length_eq_zero (by omega)
  obtain rfl : rss = [] := by simpa [Fst] using i3
  have fin : ∀ H3, KP n pp ks [] [] H3 -> _ := fun H3 k3 => (by
   unfold lt5
   fail "g"
   refine Zea (w_var rfl ⟨n, _, rfl, k3.g, rfl, w_anil ⟨rfl, Zg9 k3 ?_⟩⟩)
   fail "g"
   obtain ⟨y, f⟩ := Zis (rss := []) m.k.hk
   refine Zxs f f (by omega) (by omega) ?_
   rw [Zft y f.lay]
   fail "g"
   rfl : wS (lt5 (sg ns p1 ks n pk z5 z6 z7 z8) H3) (fin fun d _ => d = .bl true))
  fail "i"
  refine w_at (by omega) (by omega) fun c0 => ?_
  fail "g"
  refine ⟨fun h => ?_, fun h => ?_⟩
  ·fail "g"
   refine w_at (by omega) (by omega) fun c1 => ?_
   fail "g"
   refine Ztp m.k fun H3 k3 => ?_
   fail "g"
   exact fin H3 k3
  ·fail "g"
   exact fin H2 m.k
noncomputable def lt3 : SF :=
 (Zaf (sIf (tOf (eOp neD (Zdd "Keeper" "winner" 1 Zbd (Zac 3) Zae) (Zai 2 Zcj (Zaa (Zac 2) (Zaa (eOp ixD (Zac 4) (eC (.int 0))) Zae))))) (Zaf (Zbh (eC (.bl false)))
 Zah) Zah)
 (Zaf (Zbu 7 (Zai 2 Zcr (Zaa (eCB Zdk (Zaa (Zac 2) Zae)) (Zaa (eSl (Zac 1) (Zb4 (eC (.int 2))) Zcg) Zae))))
 (Zaf (Zev (iSq (Zdt (Zaa (Zdg (Zaa (eOp Zbn (eCB Zdk (Zaa (Zac 2) Zae)) (eC (.int 1))) Zae)) (Zaa (Zac 7) (Zaa (Zai 2 Zbz (Zaa (eCB Zdk (Zaa (Zac 2) Zae)) (Zaa (eSl (Zac 1) (Zb4 (eC (.int 6))) Zcg) Zae))) Zae))))) (gNm 8) (Zaf (sIf (tNo (Zeq (Zai 3 Za1 (Zaa (Zac 3) (Zaa (eC (.str "put")) (Zaa (Zac 8) Zae)))))) (Zaf (Zbh (eC (.bl false)))
 Zah) Zah)
 (Zaf (sIf (tOf (eOp neD (Zdd "Keeper" "winner" 1 Zbd (Zac 3) Zae) (Zai 2 Zcj (Zaa (Zac 2) (Zaa (eOp ixD (Zac 4) (eC (.int 0))) Zae))))) (Zaf (Zbh (eC (.bl false)))
 Zah) Zah)
 Zah)))
 lt4)))
theorem w_lt3 {ns ds : List Int} {p1 : Nat} {z5 z6 : Option D} (m : KS [(p1, ds.map .int)] n pp pk pe pr es ks rss pas H) (hp : pas.length ≤ 100) (hf : Fst pas rss = some []) (hl : ds.length = 12) (hd : Zoq ds) : wS (lt3 (sg ns p1 ks n pk z5 z6 none none) H) (fin fun d _ => d = .bl true) := by
 have c := m.k.cl
 have h8 := m.k.h8
 unfold lt3
 fail "i"
 refine Zea (w_var rfl ⟨n, _, rfl, m.k.g, rfl, w_anil ⟨rfl, Zlr m.k fun H3 x3 => ?_⟩⟩)
 have m3 := m.keep x3
 fail "g"
 refine w_ixR m3.gk (Zaz (j := 0) rfl) ?_
 fail "g"
 refine Zm0 c m3.gr fun H4 x4 => ?_
 have m4 := m3.keep x4
 refine Zvc rfl ?_
 fail "g"
 refine Zo1 (k := 2) (m4.gx _ (List.mem_cons_self ..)).1 ?_
 fail "g"
 refine Zny h8 last (hd.drop 2) (by simp [hl]) fun bad H5 b5 x5 => ?_
 have m5 := (m4.keep (.app _)).keep x5
 fail "g"
 refine Zo1 (k := 6) (m5.gx _ (List.mem_cons_self ..)).1 ?_
 fail "g"
 refine Zi9 h8 last (hd.drop 6) (by simp [hl]) fun bd H6 b6 x6 => ?_
 have m6 := (m5.keep (.app _)).keep x6
 have b5' := (b5.keep (.app _)).keep x6
 have bt : Bad ks.length H6 (.tup [.int ((ks.length : Int) + 1)]) := Bad.tup1 (T.int (by omega) (by omega)) (by omega) (Zg8 (by unfold Za5; split <;> omega))
 fail "g"
 have g7 : (H6 ++ [DO.lst [D.tup [D.int (ks.length + 1)], bad, bd]])[H6.length]? = some (.lst [D.tup [D.int (ks.length + 1)], bad, bd]) := last
 have m7 := m6.keep (.app [DO.lst [D.tup [D.int (ks.length + 1)], bad, bd]])
 have b7 : ∀ x ∈ [D.tup [D.int (ks.length + 1)], bad, bd], Bad ks.length (H6 ++ [DO.lst [D.tup [D.int (ks.length + 1)], bad, bd]]) x := fun x hx => by
  simp only [List.mem_cons, List.not_mem_nil, or_false] at hx
  rcases hx with rfl | rfl | rfl
  ·exact bt.keep (.app _)
  ·exact b5'.keep (.app _)
  ·exact b6.keep (.app _)
 generalize H6 ++ [DO.lst [D.tup [D.int (ks.length + 1)], bad, bd]] = H7 at g7 m7 b7 ⊢
 generalize H6.length = pT at g7 ⊢
 refine Zdf (fun d t σ H' => ∃ z8, Fm [] H7 H' ∧ (∀ x ∈ t, Bad ks.length H' x) ∧ σ = sg ns p1 ks n pk z5 z6 (some bad) z8) (fun _ _ _ _ ⟨_, x, _⟩ => Zv7 (x.lst (by simp) g7)) (fun d x t σ H8 ⟨z8, x8, i4, i5⟩ => ?_) (fun d σ H8 ⟨z8, x8, i4, i5⟩ => ?_) _ [] _ _ ⟨none, .refl, b7, rfl⟩
 ·subst i5
  have m8 := m7.keep x8
  have b8 := i4 x (by simp)
  refine ⟨_, _, rfl, ?_⟩
  fail "i"
  refine Zhl m8.k b8.t (by omega) (by omega) (.inl ⟨rfl, b8.row⟩) fun H9 x9 => ?_
  have m9 := m8.keep x9
  fail "i"
  refine Zea (w_var rfl ⟨n, _, rfl, m9.k.g, rfl, w_anil ⟨rfl, Zlr m9.k fun H10 x10 => ?_⟩⟩)
  have m10 := m9.keep x10
  fail "g"
  refine w_ixR m10.gk (Zaz (j := 0) rfl) ?_
  fail "g"
  refine Zm0 c m10.gr fun H11 x11 => ?_
  refine Zvc rfl ?_
  fail "g"
  exact ⟨_, ((x8.trans x9).trans x10).trans x11, fun y hy => (((i4 y (by simp [hy])).keep x9).keep x10).keep x11, rfl⟩
 ·subst i5
  exact w_kn (w_lt4 (m7.keep x8) hp hf hl)
variable {H H' : HD} {Q : D -> HD -> Prop} {ks : List D} {rss : List (List Int)} {pas : List (List (List Int))} {n pp pk pe pr : Nat} {es : List Nat} {ex : List (Nat × List D)}
theorem pure_law : ∀ ns : List Int, ns.length ≤ 63 -> ∃ Hd', Zo2 [.fl (ns.map .int)] [] = some (.bl true, Hd') := by
 intro ns hn
 suffices h : wE (Zo2 [.fl (ns.map .int)] []) fun d _ => d = .bl true by
  obtain ⟨d, H, e, rfl⟩ := h; exact ⟨H, e⟩
 refine Zcf rfl ?_
 show wS (Zq8 [some (.fl (ns.map .int)), none, none, none, none, none, none, none, none] []) _
 unfold Zq8
 fail "g"
 refine w_at (by omega) (by omega) fun c0 => ?_
 fail "g"
 refine Zg5 (many := 12) (by omega) fun ds p1 H1 hl hd g1 _ x1 => ?_
 fail "g"
 refine Zo1 (k := 1) g1 ?_
 fail "g"
 obtain ⟨d0, dr, rfl⟩ : ∃ d0 dr, ds = d0 :: dr := by
  match ds, hl with
  | d0 :: dr, _ => exact ⟨d0, dr, rfl⟩
 refine w_ixR (appL g1) (Zaz (j := 0) rfl) ?_
 fail "g"
 obtain ⟨many, hm, em⟩ : ∃ many : Nat, many ≤ 8 ∧ d0 % 9 = many := ⟨(d0 % 9).toNat, by omega, by omega⟩
 rw [em]
 refine Zv1 last (hd.drop 1) (by simp at hl ⊢; omega) (by omega) fun ks H2 hk lk x2 => ?_
 have g2 := x2.lst (by simp) (appL (u := DO.lst (((d0 :: dr).drop 1).map .int)) g1)
 clear x2 x1
 fail "g"
 refine w_mk ?_
 fail "g"
 refine ⟨rfl, Zxg (ks := ks) last ⟨rfl, ?_⟩⟩
 have k0 : KP H2.length (H2 ++ [DO.obj "Keeper" []]).length ks [] [] ((H2 ++ [DO.obj "Keeper" []] ++ [DO.lst []]).set H2.length (Zhs ks [] (H2 ++ [DO.obj "Keeper" []]).length)) := by
  refine ⟨List.getElem?_set_self (by simp), ?_, hk, by omega, ⟨by simp, fun _ h => (by cases h)⟩, fun _ h => (by cases h), by simp⟩
  rw [List.getElem?_set_ne (by simp)]
  exact last
 have g3 : ((H2 ++ [DO.obj "Keeper" []] ++ [DO.lst []]).set H2.length (Zhs ks [] (H2 ++ [DO.obj "Keeper" []]).length))[p1]? = some (.lst ((d0 :: dr).map .int)) := by
  have l1 : p1 < H2.length := (List.getElem?_eq_some_iff.mp g2).1
  rw [List.getElem?_set_ne (by omega)]
  exact appL (appL g2)
 have hpp : p1 ≠ (H2 ++ [DO.obj "Keeper" []]).length := by
  have l1 : p1 < H2.length := (List.getElem?_eq_some_iff.mp g2).1
  simp; omega
 generalize (H2 ++ [DO.obj "Keeper" []] ++ [DO.lst []]).set H2.length (Zhs ks [] (H2 ++ [DO.obj "Keeper" []]).length) = HA at k0 g3 ⊢
 generalize (H2 ++ [DO.obj "Keeper" []]).length = pp at k0 hpp
 generalize H2.length = n at k0 ⊢
 clear g2 g1
 have m0 := KS.start k0 g3 hpp
 clear g3 k0
 fail "g"
 generalize HA ++ [DO.lst []] ++ [DO.lst []] ++ [DO.lst [.ref HA.length, .ref (HA ++ [DO.lst []]).length]] = HB at m0 ⊢
 generalize (HA ++ [DO.lst []] ++ [DO.lst []]).length = pk at m0 ⊢
 generalize (HA ++ [DO.lst []]).length = pe at m0
 generalize HA.length = pr at m0
 refine Zvt ?_
 fail "g"
 refine Zh4 (appL last) last (by simp; omega) ?_
 fail "g"
 have xB : Fm [] HB (HB ++ [DO.lst [.int 2]] ++ [DO.lst (ns.map .int)] ++ [DO.lst ([.int 2] ++ ns.map .int)]) := ((Fm.app _).trans (.app _)).trans (.app _)
 have m1 := m0.more xB last (by simp)
 generalize HB ++ [DO.lst [.int 2]] ++ [DO.lst (ns.map .int)] ++ [DO.lst ([.int 2] ++ ns.map .int)] = HC at m1 ⊢
 generalize (HB ++ [DO.lst [.int 2]] ++ [DO.lst (ns.map .int)]).length = pL at m1 ⊢
 clear xB m0
 have hx0 : ∀ x ∈ [D.int 2] ++ ns.map D.int, ∃ i : Int, x = .int i := fun x hx => by
  rcases List.mem_append.mp hx with hx | hx
  ·exact ⟨2, by simpa using hx⟩
  ·obtain ⟨i, _, rfl⟩ := List.mem_map.mp hx
   exact ⟨i, rfl⟩
 refine Zdf (fun d t σ H' => ∃ pr es rss pas z5, KS [(pL, [D.int 2] ++ ns.map .int), (p1, (d0 :: dr).map .int)] n pp pk pe pr es ks rss pas H' ∧ pas.length ≤ d.length ∧ d.length + t.length = ns.length + 1 ∧ Fst pas rss = some [] ∧ (∀ x ∈ t, ∃ i : Int, x = .int i) ∧ σ = sg ns p1 ks n pk z5 none none none) (fun _ _ _ _ ⟨_, _, _, _, _, m, _⟩ => Zv7 (m.gx _ (List.mem_cons_self ..)).1) (fun d x t σ H2 ⟨pr, es, rss, pas, z5, m, i1, i2, i3, i4, i5⟩ => ?_) (fun d σ H2 ⟨pr, es, rss, pas, z5, m, i1, i2, i3, i4, i5⟩ => ?_) _ [] _ _ ⟨pr, [], [], [], none, m1, by simp, by simp, rfl, hx0, rfl⟩
 ·obtain ⟨cell, rfl⟩ := i4 x (by simp)
  subst i5
  simp at i2
  refine ⟨_, _, rfl, ?_⟩
  fail "i"
  refine Zt6 m (by omega) fun pr' es' rss' pas' H3 m3 l3 f3 => ?_
  fail "i"
  refine Zg5 (many := 25) (by omega) fun es2 p2 H4 hl2 hd2 g4 _ x4 => ?_
  fail "g"
  refine w_ixR g4 (Zaz (j := 24) (by rw [List.getElem?_map, List.getElem?_eq_getElem (by omega)]; rfl)) ?_
  have m4 := m3.keep x4
  fail "g"
  have fin : ∀ H5, Fm [] H4 H5 -> _ := fun H5 x5 => (⟨pr', es', rss', pas', some (.int cell), m4.keep x5, by simp; omega, by simp; omega, f3.trans i3, fun y hy => i4 y (by simp [hy]), rfl⟩ : ∃ pr es rss pas z5, KS [(pL, [D.int 2] ++ ns.map .int), (p1, (d0 :: dr).map .int)] n pp pk pe pr es ks rss pas H5 ∧ pas.length ≤ (d ++ [D.int cell]).length ∧ (d ++ [D.int cell]).length + t.length = ns.length + 1 ∧ Fst pas rss = some [] ∧ (∀ x ∈ t, ∃ i : Int, x = .int i) ∧ sg ns p1 ks n pk (some (.int cell)) none none none = sg ns p1 ks n pk z5 none none none)
  refine ⟨fun h => ?_, fun h => ?_⟩
  ·fail "g"
   refine Zeu m4 fun H5 x5 => ?_
   fail "g"
   exact fin H5 x5
  ·fail "g"
   exact fin H4 .refl
 ·subst i5
  simp at i2
  have m2 := m.less
  fail "i"
  refine Zeu m2 fun H3 x3 => ?_
  have m3 := m2.keep x3
  fail "g"
  refine w_ixR m3.gk (Zaz (j := 0) rfl) ?_
  fail "g"
  refine w_lenR m3.gr ?_
  rw [List.length_map]
  have l20 := m3.k.r.1
  fail "g"
  refine ⟨_, rfl, by unfold Zgs; omega, ?_⟩
  have rl : (Zau 0 (22 - (rss.length : Int)).toNat).length ≤ 22 := by simp [Zau]
  have ri : ∀ x ∈ Zau 0 (22 - (rss.length : Int)).toNat, ∃ i : Int, x = .int i := fun x hx => by
   simp only [Zau, List.mem_map] at hx
   obtain ⟨i, _, rfl⟩ := hx
   exact ⟨_, rfl⟩
  generalize Zau 0 (22 - (rss.length : Int)).toNat = rg at rl ri ⊢
  refine Zdf (fun d t σ H' => ∃ es rss pas z6, KS [(p1, (d0 :: dr).map .int)] n pp pk pe pr es ks rss pas H' ∧ pas.length ≤ 64 + d.length ∧ d.length + t.length ≤ 22 ∧ Fst pas rss = some [] ∧ (∀ x ∈ t, ∃ i : Int, x = .int i) ∧ σ = sg ns p1 ks n pk z5 z6 none none) (fun _ _ _ _ _ => Zpw) (fun d x t σ H2 ⟨es, rss, pas, z6, m, i1, i2, i3, i4, i5⟩ => ?_) (fun d σ H2 ⟨es, rss, pas, z6, m, i1, i2, i3, i4, i5⟩ => ?_) _ [] _ _ ⟨es, rss, pas, none, m3, by simp at i1 ⊢; omega, by simpa using rl, i3, ri, rfl⟩
  ·obtain ⟨cell, rfl⟩ := i4 x (by simp)
   subst i5
   simp at i2
   refine ⟨_, _, rfl, ?_⟩
   fail "i"
   refine Zki (by omega) fun ls H3 u x3 => ?_
   have m3 := m.keep x3
   fail "g"
   refine Zk4 m3 u (by omega) fun es' rss' pas' H4 m4 l4 f4 => ?_
   fail "i"
   refine Zeu m4 fun H5 x5 => ?_
   fail "g"
   exact ⟨es', rss', pas', _, m4.keep x5, by simp; omega, by simp; omega, f4.trans i3, fun y hy => i4 y (by simp [hy]), rfl⟩
  ·subst i5
   simp at i2
   exact w_kn (w_lt3 m (by omega) i3 hl hd)
end K08
set_option maxHeartbeats 8000000
namespace K08
open PySem PySem.Spec PyProof.Rows L2 DL
noncomputable def top (i : Nat) : Stmt := PySem.Challenge.pw_allsome_k72_rows_put_and_out.main.body.getD i (.Pass ⟨0, 0, 0, 0⟩)
noncomputable abbrev s_is_whole : Stmt := top 3
theorem Zmn : FnScope ["thing"] ["thing"] (Zad s_is_whole) := ⟨rfl, rfl, rfl, by decide +kernel, rfl, by decide +kernel, by decide +kernel⟩
noncomputable abbrev s_is_row : Stmt := top 4
theorem Zln : FnScope ["many", "thing", "last", "literal"] ["many", "thing"] (Zad s_is_row) := ⟨rfl, rfl, rfl, by decide +kernel, rfl, by decide +kernel, by decide +kernel⟩
noncomputable abbrev s_first_numbers : Stmt := top 18
theorem Zd9 : FnScope ["rows", "told", "number", "row"] ["rows"] (Zad s_first_numbers) := ⟨rfl, rfl, rfl, by decide +kernel, rfl, by decide +kernel, by decide +kernel⟩
noncomputable abbrev s_rows_behind : Stmt := top 19
theorem Ze5 : FnScope ["rows", "name", "truth", "right", "told", "row", "first"] ["rows", "name", "truth"] (Zad s_rows_behind) := ⟨rfl, rfl, rfl, by decide +kernel, rfl, by decide +kernel, by decide +kernel⟩
noncomputable abbrev s_rows_behind_play : Stmt := top 20
theorem Zdj : FnScope ["rows", "play", "told", "name", "truth"] ["rows", "play"] (Zad s_rows_behind_play) := ⟨rfl, rfl, rfl, by decide +kernel, rfl, by decide +kernel, by decide +kernel⟩
noncomputable abbrev s_other_side : Stmt := top 21
theorem Zkc : FnScope ["side"] ["side"] (Zad s_other_side) := ⟨rfl, rfl, rfl, by decide +kernel, rfl, by decide +kernel, by decide +kernel⟩
noncomputable abbrev s_winner_behind : Stmt := top 22
theorem Zc9 : FnScope ["kinds", "rows", "many", "who", "truth"] ["kinds", "rows", "many"] (Zad s_winner_behind) := ⟨rfl, rfl, rfl, by decide +kernel, rfl, by decide +kernel, by decide +kernel⟩
noncomputable abbrev s_winner : Stmt := top 23
theorem Zrs : FnScope ["claim", "play"] ["claim", "play"] (Zad s_winner) := ⟨rfl, rfl, rfl, by decide +kernel, rfl, by decide +kernel, by decide +kernel⟩
noncomputable abbrev s_is_number_of : Stmt := top 33
theorem Zig : FnScope ["thing", "many"] ["thing", "many"] (Zad s_is_number_of) := ⟨rfl, rfl, rfl, by decide +kernel, rfl, by decide +kernel, by decide +kernel⟩
noncomputable abbrev s_law_mix : Stmt := top 51
theorem Ziy : FnScope ["cell", "k", "prime", "one"] ["cell", "k"] (Zad s_law_mix) := ⟨rfl, rfl, rfl, by decide +kernel, rfl, by decide +kernel, by decide +kernel⟩
noncomputable abbrev s_law_digits : Stmt := top 52
theorem Zfp : FnScope ["cell", "many", "found", "left_over", "wide", "k"] ["cell", "many"] (Zad s_law_digits) := ⟨rfl, rfl, rfl, by decide +kernel, rfl, by decide +kernel, by decide +kernel⟩
noncomputable abbrev s_law_at : Stmt := top 53
theorem Zpo : FnScope ["script", "k"] ["script", "k"] (Zad s_law_at) := ⟨rfl, rfl, rfl, by decide +kernel, rfl, by decide +kernel, by decide +kernel⟩
noncomputable abbrev s_law_kinds : Stmt := top 54
theorem Zgr : FnScope ["some", "many", "found", "k", "kind"] ["some", "many"] (Zad s_law_kinds) := ⟨rfl, rfl, rfl, by decide +kernel, rfl, by decide +kernel, by decide +kernel⟩
noncomputable abbrev s_law_row : Stmt := top 55
theorem Zje : FnScope ["cell", "many", "wide", "some", "found", "k"] ["cell", "many", "wide"] (Zad s_law_row) := ⟨rfl, rfl, rfl, by decide +kernel, rfl, by decide +kernel, by decide +kernel⟩
noncomputable abbrev s_law_bad_drawn : Stmt := top 57
theorem Zeb : FnScope ["many", "some", "row", "at", "odd"] ["many", "some"] (Zad s_law_bad_drawn) := ⟨rfl, rfl, rfl, by decide +kernel, rfl, by decide +kernel, by decide +kernel⟩
noncomputable abbrev s_law_bad_row : Stmt := top 58
theorem Ze1 : FnScope ["many", "some", "low", "rows"] ["many", "some"] (Zad s_law_bad_row) := ⟨rfl, rfl, rfl, by decide +kernel, rfl, by decide +kernel, by decide +kernel⟩
noncomputable abbrev s_law_bad_number : Stmt := top 59
theorem Zgd : FnScope ["many", "some"] ["many", "some"] (Zad s_law_bad_number) := ⟨rfl, rfl, rfl, by decide +kernel, rfl, by decide +kernel, by decide +kernel⟩
noncomputable abbrev s_law_lost : Stmt := top 64
theorem Zfc : FnScope ["rows", "play", "row", "right"] ["rows", "play"] (Zad s_law_lost) := ⟨rfl, rfl, rfl, by decide +kernel, rfl, by decide +kernel, by decide +kernel⟩
noncomputable abbrev s_law_winner : Stmt := top 65
theorem Zf1 : FnScope ["kinds", "rows", "level", "kind", "wins", "size", "more", "play", "both_v"] ["kinds", "rows"] (Zad s_law_winner) := ⟨rfl, rfl, rfl, by decide +kernel, rfl, by decide +kernel, by decide +kernel⟩
noncomputable abbrev s_Keeper_init : Stmt := (Zf8 (top 49)).getD 0 (.Pass ⟨0, 0, 0, 0⟩)
theorem Zin : FnScope ["self", "kinds"] ["self", "kinds"] (Zad s_Keeper_init) := ⟨rfl, rfl, rfl, by decide +kernel, rfl, by decide +kernel, by decide +kernel⟩
noncomputable abbrev s_Keeper_put : Stmt := (Zf8 (top 49)).getD 1 (.Pass ⟨0, 0, 0, 0⟩)
theorem Zd5 : FnScope ["self", "row"] ["self", "row"] (Zad s_Keeper_put) := ⟨rfl, rfl, rfl, by decide +kernel, rfl, by decide +kernel, by decide +kernel⟩
noncomputable abbrev s_Keeper_out : Stmt := (Zf8 (top 49)).getD 2 (.Pass ⟨0, 0, 0, 0⟩)
theorem Zfy : FnScope ["self", "number"] ["self", "number"] (Zad s_Keeper_out) := ⟨rfl, rfl, rfl, by decide +kernel, rfl, by decide +kernel, by decide +kernel⟩
noncomputable abbrev s_Keeper_back : Stmt := (Zf8 (top 49)).getD 3 (.Pass ⟨0, 0, 0, 0⟩)
theorem Ze4 : FnScope ["self"] ["self"] (Zad s_Keeper_back) := ⟨rfl, rfl, rfl, by decide +kernel, rfl, by decide +kernel, by decide +kernel⟩
noncomputable abbrev s_law_kind : Stmt := top 56
theorem Zhv : FnScope ["keeper", "word", "thing", "told", "e", "kinds"] ["keeper", "word", "thing"] (Zad s_law_kind) := ⟨rfl, rfl, rfl, by decide +kernel, rfl, by decide +kernel, by decide +kernel⟩
noncomputable abbrev s_law_row_refused : Stmt := top 60
theorem Zdn : FnScope ["keeper", "word", "thing", "shown"] ["keeper", "word", "thing"] (Zad s_law_row_refused) := ⟨rfl, rfl, rfl, by decide +kernel, rfl, by decide +kernel, by decide +kernel⟩
noncomputable abbrev s_law_done : Stmt := top 61
theorem Zif : FnScope ["keeper", "kept", "word", "thing", "rows", "elder", "told"] ["keeper", "kept", "word", "thing"] (Zad s_law_done) := ⟨rfl, rfl, rfl, by decide +kernel, rfl, by decide +kernel, by decide +kernel⟩
noncomputable abbrev s_law_turn : Stmt := top 62
theorem Zfh : FnScope ["keeper", "kept", "many", "cell", "some", "way"] ["keeper", "kept", "many", "cell"] (Zad s_law_turn) := ⟨rfl, rfl, rfl, by decide +kernel, rfl, by decide +kernel, by decide +kernel⟩
noncomputable abbrev s_Keeper_claim : Stmt := (Zf8 (top 49)).getD 4 (.Pass ⟨0, 0, 0, 0⟩)
theorem Zhe : FnScope ["self"] ["self"] (Zad s_Keeper_claim) := ⟨rfl, rfl, rfl, by decide +kernel, rfl, by decide +kernel, by decide +kernel⟩
noncomputable abbrev s_law_stands : Stmt := top 63
theorem Zf3 : FnScope ["keeper", "kinds", "kept", "told"] ["keeper", "kinds", "kept"] (Zad s_law_stands) := ⟨rfl, rfl, rfl, by decide +kernel, rfl, by decide +kernel, by decide +kernel⟩
noncomputable abbrev s_law_long : Stmt := top 66
theorem Zho : FnScope ["keeper", "many", "cell", "row", "rounds", "k"] ["keeper", "many", "cell"] (Zad s_law_long) := ⟨rfl, rfl, rfl, by decide +kernel, rfl, by decide +kernel, by decide +kernel⟩
noncomputable abbrev s_Keeper_winner : Stmt := (Zf8 (top 49)).getD 5 (.Pass ⟨0, 0, 0, 0⟩)
theorem Zg0 : FnScope ["self"] ["self"] (Zad s_Keeper_winner) := ⟨rfl, rfl, rfl, by decide +kernel, rfl, by decide +kernel, by decide +kernel⟩
noncomputable abbrev s_law : Stmt := top 67
theorem Zu4 : FnScope ["script", "some", "kinds", "keeper", "kept", "cell", "k", "bad", "thing"] ["script"] (Zad s_law) := ⟨rfl, rfl, rfl, by decide +kernel, rfl, by decide +kernel, by decide +kernel⟩
structure Top (K : PySem.W.Frag) (mg : Str -> Option Value) : Prop where
 t_is_whole : Tf K mg "is_whole" K08.s_is_whole
 t_is_row : Tf K mg "is_row" K08.s_is_row
 t_first_numbers : Tf K mg "first_numbers" K08.s_first_numbers
 t_rows_behind : Tf K mg "rows_behind" K08.s_rows_behind
 t_rows_behind_play : Tf K mg "rows_behind_play" K08.s_rows_behind_play
 t_other_side : Tf K mg "other_side" K08.s_other_side
 t_winner_behind : Tf K mg "winner_behind" K08.s_winner_behind
 t_winner : Tf K mg "winner" K08.s_winner
 t_is_number_of : Tf K mg "is_number_of" K08.s_is_number_of
 t_law_mix : Tf K mg "_law_mix" K08.s_law_mix
 t_law_digits : Tf K mg "_law_digits" K08.s_law_digits
 t_law_at : Tf K mg "_law_at" K08.s_law_at
 t_law_kinds : Tf K mg "_law_kinds" K08.s_law_kinds
 t_law_row : Tf K mg "_law_row" K08.s_law_row
 t_law_bad_drawn : Tf K mg "_law_bad_drawn" K08.s_law_bad_drawn
 t_law_bad_row : Tf K mg "_law_bad_row" K08.s_law_bad_row
 t_law_bad_number : Tf K mg "_law_bad_number" K08.s_law_bad_number
 t_law_lost : Tf K mg "_law_lost" K08.s_law_lost
 t_law_winner : Tf K mg "_law_winner" K08.s_law_winner
 t_Keeper_init : Ti K mg "Keeper" "Keeper.__init__" K08.s_Keeper_init
 t_Keeper_put : Tm K "Keeper" "put" "Keeper.put" K08.s_Keeper_put
 t_Keeper_out : Tm K "Keeper" "out" "Keeper.out" K08.s_Keeper_out
 t_Keeper_back : Tm K "Keeper" "back" "Keeper.back" K08.s_Keeper_back
 t_law_kind : Tf K mg "_law_kind" K08.s_law_kind
 t_law_row_refused : Tf K mg "_law_row_refused" K08.s_law_row_refused
 t_law_done : Tf K mg "_law_done" K08.s_law_done
 t_law_turn : Tf K mg "_law_turn" K08.s_law_turn
 t_Keeper_claim : Tm K "Keeper" "claim" "Keeper.claim" K08.s_Keeper_claim
 t_law_stands : Tf K mg "_law_stands" K08.s_law_stands
 t_law_long : Tf K mg "_law_long" K08.s_law_long
 t_Keeper_winner : Tm K "Keeper" "winner" "Keeper.winner" K08.s_Keeper_winner
 t_law : Tf K mg "law" K08.s_law
 l_Keeper : Kl K "Keeper" ["kinds", "rows", "past"]
 a_winner_games : mg "winner_games" = mg "winner"
 n_ValueError : mg "ValueError" = none
 n_abs : mg "abs" = none
 n_bool : mg "bool" = none
 n_dict : mg "dict" = none
 n_enumerate : mg "enumerate" = none
 n_int : mg "int" = none
 n_isinstance : mg "isinstance" = none
 n_len : mg "len" = none
 n_list : mg "list" = none
 n_range : mg "range" = none
 n_repr : mg "repr" = none
 n_str : mg "str" = none
 n_tuple : mg "tuple" = none
 c_MOST_ROWS : Gc K mg "MOST_ROWS" k_MOST_ROWS
 c_TRUTHS : Gc K mg "TRUTHS" k_TRUTHS
 x_ClaimError : Cat K mg "ClaimError" ["NoRow", "TooMany", "NoBack"]
 x_l : Zl1 K ["NoRow", "TooMany", "NoBack"]
 xi_NoBack : ∃ c, mg "NoBack" = some (.ref c) ∧ Is1 K (.ref c) [("NoRow", false), ("TooMany", false), ("NoBack", true)]
 xi_TooMany : ∃ c, mg "TooMany" = some (.ref c) ∧ Is1 K (.ref c) [("NoRow", false), ("TooMany", true), ("NoBack", false)]
 xi_NoRow : ∃ c, mg "NoRow" = some (.ref c) ∧ Is1 K (.ref c) [("NoRow", true), ("TooMany", false), ("NoBack", false)]
 x_v : Is1 K (.type "ValueError") [("NoRow", true), ("TooMany", true), ("NoBack", true)]
 xt_0 : ∃ c0 c1 c2 c3 c4, IsN K [c0, c1, c2, c3, c4] [("NoRow", false), ("TooMany", false), ("NoBack", false)] ∧ mg "NoLine" = some (.ref c0) ∧ mg "NoPick" = some (.ref c1) ∧ mg "NoStep" = some (.ref c2) ∧ mg "NoText" = some (.ref c3) ∧ mg "NotWon" = some (.ref c4)
section
variable {P : Program} {w : World} {K : PySem.W.Frag} {mg : Str -> Option Value} {base : Heap}
local macro_rules | `(tactic| fail $s:str) => do
 if s.getString.take 1 != "~" then Lean.Macro.throwUnsupported
 let i := fun (x : String) => Lean.mkIdent x.toName
 let mut o : Array (Lean.TSyntax `tactic) := #[]
 for w in (s.getString.drop 1).toString.splitOn " " do
  o := o.push (← match w with
   | "a" => `(tactic| rfl)
   | "b" => `(tactic| refine paf_c ?_ ?_ ?_)
   | "c" => `(tactic| exact Zfd)
   | "d" => `(tactic| refine Zhq ?_ ?_)
   | "e" => `(tactic| refine Zhq ?_ Zj8)
   | "f" => `(tactic| first | exact Or.inl rfl | exact Or.inr rfl)
   | "g" => `(tactic| exact $(i "nd"))
   | "h" => `(tactic| refine Zuv ?_ ?_ Zj8)
   | "i" => `(tactic| exact (Zab (pv 2)))
   | "j" => `(tactic| refine Zds ?_)
   | "k" => `(tactic| exact Zag)
   | "l" => `(tactic| exact (Zab (pv 0)))
   | "m" => `(tactic| decide)
   | "n" => `(tactic| refine Zdz Zqd ?_ $(i "T.n_len") Zu1 ?_)
   | "o" => `(tactic| refine Zqn ?_)
   | "p" => `(tactic| exact (Zab (pv 3)))
   | "q" => `(tactic| exact Zch)
   | "r" => `(tactic| exact (Zab (pv 1)))
   | "s" => `(tactic| refine Zq3 ?_)
   | "t" => `(tactic| refine Zam Zdr ?_ Zag)
   | "u" => `(tactic| refine Zvz $(i "T.l_Keeper") ?_ (Zab (pv 0)))
   | "v" => `(tactic| exact Zds Zm7)
   | "w" => `(tactic| refine Zfs ?_ (fun _ => rfl))
   | "x" => `(tactic| refine Zwz ?_)
   | "y" => `(tactic| refine Zwx PassesOwn.never ?_ ?_ ?_ ?_)
   | "z" => `(tactic| exact (Zab (pv 4)))
   | "A" => `(tactic| refine Zb8 (i := 3) ?_ ?_ ?_ ?_)
   | "B" => `(tactic| refine Zto ?_)
   | "C" => `(tactic| refine Zam Zbi ?_ ?_)
   | "D" => `(tactic| exact Zbv ixf (Zab (pv 1)) Zag (fun _ _ => rfl))
   | "E" => `(tactic| refine Zar (Zcz $(i "hr.units")) ?_ Zag (Zas _))
   | "F" => `(tactic| refine Zb8 (i := 2) ?_ ?_ ?_ ?_)
   | "G" => `(tactic| refine PWf.pt ?_)
   | "H" => `(tactic| refine Zbv ixf ?_ ?_ (fun _ _ => rfl))
   | "I" => `(tactic| refine Zb8 (i := 4) ?_ ?_ ?_ ?_)
   | "J" => `(tactic| exact Zq3 Zfd)
   | "K" => `(tactic| exact Zm7)
   | "L" => `(tactic| refine Zcs (i := 5) ?_ ?_ ?_)
   | "M" => `(tactic| exact Zdp Zag)
   | "N" => `(tactic| exact Zqn Zfd)
   | "O" => `(tactic| intro _ _ _ _ _ _)
   | "P" => `(tactic| refine Zdz Zp8 ?_ $(i "T.n_isinstance") Zjp ?_)
   | "Q" => `(tactic| refine Zo3 ?_ $(i "T.n_range") ?_)
   | "R" => `(tactic| refine Zwg ?_ ?_)
   | "S" => `(tactic| refine Zso ?_)
   | "T" => `(tactic| exact Zhx)
   | "U" => `(tactic| exact Zbv ixf (Zab (pv 4)) Zag (fun _ _ => rfl))
   | "V" => `(tactic| refine Zvs $(i "T.l_Keeper") ?_ (Zab (pv 0)) ?_)
   | "W" => `(tactic| refine Zam Zbi ?_ Zag)
   | "X" => `(tactic| refine Zam Zhg ?_ Zag)
   | "Y" => `(tactic| exact Zm1 Zkk Zag)
   | "Z" => `(tactic| exact Zbv ixf (Zab (pv 0)) Zag (fun _ _ => rfl))
   | "0" => `(tactic| refine Za0 ($(i "ok_law_done") $(i "T")) ($(i "hr.mono") (by decide)) ?_ ?_)
   | "1" => `(tactic| refine Zdz Zrd ?_ $(i "T.n_abs") Zy6 ?_)
   | "2" => `(tactic| exact Zam Zbi (Zab (pv 1)) Zag)
   | "3" => `(tactic| refine Zcs (i := 3) ?_ ?_ ?_)
   | "4" => `(tactic| exact Zhq Zx0 Zj8)
   | "5" => `(tactic| exact Zdp (Zab (pv 3)))
   | "6" => `(tactic| refine Zam Zdr ?_ ?_)
   | "7" => `(tactic| refine Zwm ?_ ?_)
   | "8" => `(tactic| exact $(i "T.n_isinstance"))
   | "9" => `(tactic| refine Yat ?_ ?_)
   | "aa" => `(tactic| exact Zar (Zcz $(i "hr.units")) (Zab (pv 1)) Zch (Zas _))
   | "ab" => `(tactic| refine Za0 ($(i "ok_law_digits") $(i "T")) ($(i "hr.mono") (by decide)) ?_ ?_)
   | "ac" => `(tactic| refine Za0 ($(i "ok_law_stands") $(i "T")) ($(i "hr.mono") (by decide)) ?_ ?_)
   | "ad" => `(tactic| refine Za0 ($(i "ok_law_row") $(i "T")) ($(i "hr.mono") (by decide)) ?_ ?_)
   | "ae" => `(tactic| refine Zdi Zmg ?_ $(i "T.n_tuple") Zha ?_)
   | "af" => `(tactic| refine Zar (Zn6 $(i "hr.units")) ?_ ?_ (Zas _))
   | "ag" => `(tactic| exact Zam Zbi (Zab (pv 0)) Zag)
   | "ah" => `(tactic| refine Zby (Zab (pv 2)) Zcw ?_)
   | "ai" => `(tactic| refine Zpy (by rfl) $(i "hE") (by rfl) ?_)
   | "aj" => `(tactic| exact Cat.exc $(i "T.x_ClaimError") (by decide))
   | "ak" => `(tactic| exact Zam Zmh Zag Zag)
   | "al" => `(tactic| exact Ze8 (Zab (pv 2)))
   | "am" => `(tactic| exact $(i "hr.mono") (by decide))
   | "an" => `(tactic| refine Zuv ?_ ?_ ?_)
   | "ao" => `(tactic| exact (Zab (pv 5)))
   | "ap" => `(tactic| with_unfolding_all rfl)
   | "aq" => `(tactic| refine Zyl ?_ ?_)
   | "ar" => `(tactic| refine Zfo PySem.F.slot_list_append PySem.F.type_list_append Zdh (Zab (pv 2)) ?_)
   | "as" => `(tactic| refine Zfo PySem.F.slot_list_append PySem.F.type_list_append Zdh (Zab (pv 5)) ?_)
   | "at" => `(tactic| refine Znc ($(i "ok_Keeper_put") $(i "T")) ($(i "hr.mono") (by decide)) (Zab (pv 0)) ?_)
   | "au" => `(tactic| refine Znc ($(i "ok_Keeper_out") $(i "T")) ($(i "hr.mono") (by decide)) (Zab (pv 0)) ?_)
   | "av" => `(tactic| exact Zel ($(i "ok_Keeper_claim") $(i "T")) ($(i "hr.mono") (by decide)) (Zab (pv 0)))
   | "aw" => `(tactic| exact Zel ($(i "ok_Keeper_back") $(i "T")) ($(i "hr.mono") (by decide)) (Zab (pv 0)))
   | "ax" => `(tactic| exact Zar (Zcz $(i "hr.units")) (Zab (pv 5)) Zag (Zas _))
   | "ay" => `(tactic| refine Za0 ($(i "ok_law_row_refused") $(i "T")) ($(i "hr.mono") (by decide)) ?_ ?_)
   | "az" => `(tactic| refine Za0 ($(i "ok_law_kind") $(i "T")) ($(i "hr.mono") (by decide)) ?_ ?_)
   | "aA" => `(tactic| refine Za0 ($(i "ok_is_row") $(i "T")) ($(i "hr.mono") (by decide)) ?_ ?_)
   | "aB" => `(tactic| refine Za0 ($(i "ok_law_at") $(i "T")) ($(i "hr.mono") (by decide)) ?_ ?_)
   | "aC" => `(tactic| refine Zbv ixf (Zab (pv 3)) ?_ (fun _ _ => rfl))
   | "aD" => `(tactic| refine Zde (Zcz $(i "hr.units")) ?_ Zch (Zas _))
   | "aE" => `(tactic| refine Zdi Zov ?_ $(i "T.n_list") Zvn ?_)
   | "aF" => `(tactic| exact Zam Zgg Zag (Zab (pv 1)))
   | "aG" => `(tactic| refine Zby (Zab (pv 2)) ?_ Zcw)
   | "aH" => `(tactic| refine Zby (Zab (pv 1)) ?_ Zcw)
   | "aI" => `(tactic| refine Zam Zbi (Zab (pv 3)) ?_)
   | "U1" => `(tactic| (intro _ _ _ _ _ _ us hl; obtain ⟨_, e⟩ := us1 hl; subst e; rfl))
   | "U2" => `(tactic| (intro _ _ _ _ _ _ us hl; obtain ⟨_, _, e⟩ := us2 hl; subst e; rfl))
   | "U3" => `(tactic| (intro _ _ _ _ _ _ us hl; obtain ⟨_, _, _, e⟩ := us3 hl; subst e; rfl))
   | "U4" => `(tactic| (intro _ _ _ _ _ _ us hl; obtain ⟨_, _, _, _, e⟩ := us4 hl; subst e; rfl))
   | _ => Lean.Macro.throwUnsupported)
 `(tactic| ($[$o]*))
theorem Zhw (T : Top K mg) : Fn P w K mg base 1 "is_whole" ["thing"] Zet := by
 refine (fun h => h : _ → Fn P w K mg base 1 "is_whole" ["thing"] (Zbp 1 1 Zdu)) (Zc0 (N := ["thing"]) (k := 0) T.t_is_whole Zmn (by fail "~U1") ?_)
 intro f cdv A outer s H E hr
 unfold Zdu
 fail "~e j 7 P a b l b"
 refine Zhh ?_ T.n_int Zna
 fail "~a c a a"
 refine Zjk ?_
 refine Zj9 ?_
 fail "~P a b l b"
 refine Zhh ?_ T.n_bool Zr3
 fail "~a c a a"
theorem ok_is_row (T : Top K mg) : Fn P w K mg base 2 "is_row" ["many", "thing"] Zc2 := by
 refine (fun h => h : _ → Fn P w K mg base 2 "is_row" ["many", "thing"] (Zbp 2 4 Zd8)) (Zc0 (N := ["many", "thing", "last", "literal"]) (k := 1) T.t_is_row Zln (by fail "~U2") ?_)
 intro f cdv A outer s H E hr
 unfold Zd8
 have nd := Zln.nd
 fail "~d h x w P a b r b"
 refine Zhh ?_ T.n_tuple Zha
 fail "~a c a a e v d"
 refine Zb8 (i := 2) ?_ ?_ ?_ Zag
 fail "~g a f d y a"
 exact Ze8 (Zab (pv 1))
 fail "~3 g a f d h G 9 x w"
 refine Za0 (Zhw T) (hr.mono (by decide)) ?_ ?_
 fail "~a b p c a 9"
 refine Zar Zuu ?_ (Zab (pv 2)) (Zas _)
 fail "~1 a b p c a"
 refine Zjr ?_
 refine Zar Zi3 ?_ (Zab (pv 0)) (Zas _)
 fail "~1 a b p c a e v e F g a f 1 a b p c a e v"
theorem Zgy (T : Top K mg) : Fn P w K mg base 1 "first_numbers" ["rows"] Zcx := by
 refine (fun h => h : _ → Fn P w K mg base 1 "first_numbers" ["rows"] (Zbp 1 4 Zb1)) (Zc0 (N := ["rows", "told", "number", "row"]) (k := 0) T.t_first_numbers Zd9 (by fail "~U1") ?_)
 intro f cdv A outer s H E hr
 unfold Zb1
 have nd := Zd9.nd
 fail "~d"
 refine Zb8 (i := 1) ?_ ?_ ?_ Zj7
 fail "~g a f d y a"
 refine Zuq ?_ T.n_enumerate ?_
 fail "~a b l c a"
 refine Zpd ?_ ?_
 fail "~a"
 refine Zdy ?_ ?_
 refine Zcs (i := 2) ?_ ?_ ?_
 fail "~g a f"
 refine Zdy ?_ Zjm
 fail "~3 g a f e B"
 refine Zse PySem.F.slot_dict_setdefault PySem.F.type_dict_setdefault (Zxu hr.units) (Zab (pv 1)) ?_
 fail "~b p b i c a a e"
 exact Zds (Zab (pv 1))
theorem Ze6 (T : Top K mg) : Fn P w K mg base 1 "rows_behind" ["rows", "name", "truth"] Zav := by
 refine (fun h => h : _ → Fn P w K mg base 1 "rows_behind" ["rows", "name", "truth"] (Zbp 3 7 Zcu)) (Zc0 (N := ["rows", "name", "truth", "right", "told", "row", "first"]) (k := 0) T.t_rows_behind Ze5 (by fail "~U3") ?_)
 intro f cdv A outer s H E hr
 unfold Zcu
 have nd := Ze5.nd
 fail "~d A g a f"
 refine Znv ?_ (Zab (pv 1)) ?_
 exact Zfs (Zab (pv 2)) (fun _ => rfl)
 exact Zm1 Zkk (Zab (pv 1))
 fail "~d"
 refine Zb8 (i := 4) ?_ ?_ ?_ Zj7
 fail "~g a f d y a"
 exact Zp6 (Zab (pv 0))
 fail "~L g a f d"
 refine Zb8 (i := 6) ?_ ?_ ?_ ?_
 fail "~g a f"
 refine Znv ?_ ?_ Zag
 exact Zfs (Zab (pv 5)) (fun _ => rfl)
 exact Zbv ixf (Zab (pv 5)) Zag (fun _ _ => rfl)
 fail "~e an"
 refine Zar (Zcz hr.units) (Zab (pv 6)) ?_ (Zas _)
 exact Zm1 Zkk (Zab (pv 3))
 fail "~e B"
 refine Zse PySem.F.slot_dict_setdefault PySem.F.type_dict_setdefault (Zxu hr.units) (Zab (pv 4)) ?_
 fail "~b"
 refine Zby (Zab (pv 5)) ?_ Zcw
 fail "~M b"
 exact Zbv (Zpg hr.units) (Zab (pv 0)) (Zab (pv 5)) (fun _ _ => rfl)
 fail "~c a a e h"
 exact Zar (Zn6 hr.units) (Zab (pv 6)) (Zab (pv 3)) (Zas _)
 fail "~e B"
 refine Zse PySem.F.slot_dict_setdefault PySem.F.type_dict_setdefault (Zxu hr.units) (Zab (pv 4)) ?_
 fail "~b ao b"
 exact Zbv (Zpg hr.units) (Zab (pv 0)) (Zab (pv 5)) (fun _ _ => rfl)
 fail "~c a a e"
 exact Zds (Zab (pv 4))
theorem Zfa (T : Top K mg) : Fn P w K mg base 2 "rows_behind_play" ["rows", "play"] Zbq := by
 refine (fun h => h : _ → Fn P w K mg base 2 "rows_behind_play" ["rows", "play"] (Zbp 2 5 Za7)) (Zc0 (N := ["rows", "play", "told", "name", "truth"]) (k := 1) T.t_rows_behind_play Zdj (by fail "~U2") ?_)
 intro f cdv A outer s H E hr
 unfold Za7
 have nd := Zdj.nd
 fail "~d F g a f"
 refine Za0 (Zgy T) (hr.mono (by decide)) ?_ ?_
 fail "~a b l c a d y a"
 refine Zqr ?_ T.n_enumerate ?_
 fail "~a b r c a"
 refine Zpd ?_ ?_
 fail "~a"
 refine Zdy ?_ ?_
 fail "~3 g a f"
 refine Zdy ?_ Zjm
 refine Zcs (i := 4) ?_ ?_ ?_
 fail "~g a f e F g a f"
 refine Za0 (Ze6 T) (hr.mono (by decide)) ?_ ?_
 fail "~a b i b p b z c a a a e"
 exact Zds (Zab (pv 2))
theorem Zjq (T : Top K mg) : Fn P w K mg base 1 "other_side" ["side"] Zci := by
 refine (fun h => h : _ → Fn P w K mg base 1 "other_side" ["side"] (Zbp 1 1 Zc5)) (Zc0 (N := ["side"]) (k := 0) T.t_other_side Zkc (by fail "~U1") ?_)
 intro f cdv A outer s H E hr
 unfold Zc5
 fail "~e j"
 refine Znv ?_ Zch Zch
 exact Zar (Zcz hr.units) (Zab (pv 0)) Zch (Zas _)
theorem Zgw (T : Top K mg) : Fn P w K mg base 12 "winner_behind" ["kinds", "rows", "many"] Zco := by
 refine (fun h => h : _ → Fn P w K mg base 12 "winner_behind" ["kinds", "rows", "many"] (Zxl 3 5 Zao 10)) (Zva (N := ["kinds", "rows", "many", "who", "truth"]) (k := 1) T.t_winner_behind Zc9 (by fail "~U3") ?_ 10)
 intro F j G f cdv A outer s H E hr
 unfold Zao
 fail "~d h"
 refine Zar (dinf hr.units) ?_ (Zab (pv 1)) ?_
 fail "~N ap e"
 exact Zds Zch
 fail "~d h E"
 refine Zdz Zn7 ?_ T.n_len Zu1 ?_
 fail "~a b r c a e"
 exact Zds Zch
 fail "~d A"
 exact Zc9.nd
 fail "~a f"
 exact Zbv ixf (Zab (pv 0)) (Zab (pv 2)) (fun _ _ => rfl)
 fail "~d y a"
 refine Ze8 ?_
 refine Znx ?_ T.c_TRUTHS
 fail "~a"
 refine Zcs (i := 4) ?_ ?_ ?_
 exact Zc9.nd
 fail "~a f e h"
 refine Zar (Zcz hr.units) ?_ (Zab (pv 3)) (Zas _)
 refine Za0 G (hr.mono (Nat.le_refl _)) ?_ ?_
 fail "~a b l b"
 refine Za0 (Ze6 T) (hr.mono (by omega)) ?_ ?_
 fail "~a b r b"
 exact Zam Zbi (Zab (pv 2)) Zag
 fail "~b z c a a a b"
 exact Zam Zbi (Zab (pv 2)) Zag
 fail "~c a a a e"
 exact Zds (Zab (pv 3))
 fail "~e j"
 refine Za0 (Zjq T) (hr.mono (by omega)) ?_ ?_
 fail "~a b p c a"
theorem Zsa (T : Top K mg) : Fn P w K mg base 13 "winner" ["claim", "play"] Zg7 := by
 refine (fun h => h : _ → Fn P w K mg base 13 "winner" ["claim", "play"] (Zbp 2 2 Zfq)) (Zc0 (N := ["claim", "play"]) (k := 12) T.t_winner Zrs (by fail "~U2") ?_)
 intro f cdv A outer s H E hr
 unfold Zfq
 fail "~e j"
 refine Za0 (Zgw T) (hr.mono (by decide)) ?_ ?_
 fail "~a b Z b"
 refine Za0 (Zfa T) (hr.mono (by decide)) ?_ ?_
 fail "~a b Z b r c a a b n a b r c a c a a a"
theorem Zei (T : Top K mg) : Fn P w K mg base 2 "is_number_of" ["thing", "many"] Zc3 := by
 refine (fun h => h : _ → Fn P w K mg base 2 "is_number_of" ["thing", "many"] (Zbp 2 2 Zcb)) (Zc0 (N := ["thing", "many"]) (k := 1) T.t_is_number_of Zig (by fail "~U2") ?_)
 intro f cdv A outer s H E hr
 unfold Zcb
 fail "~e j 7"
 refine Za0 (Zhw T) (hr.mono (by decide)) ?_ ?_
 fail "~a b l c a"
 refine Zjk ?_
 refine Zrq Zuu Zn5 Zag (Zab (pv 0)) (Zab (pv 1)) ?_
 fail "~ap"
theorem Zor (T : Top K mg) : Fn P w K mg base 1 "_law_mix" ["cell", "k"] Zh3 := by
 refine (fun h => h : _ → Fn P w K mg base 1 "_law_mix" ["cell", "k"] (Zbp 2 4 Zem)) (Zc0 (N := ["cell", "k", "prime", "one"]) (k := 0) T.t_law_mix Ziy (by fail "~U2") ?_)
 intro f cdv A outer s H E hr
 unfold Zem
 have nd := Ziy.nd
 fail "~d F g a f H s b k b k b k b k b k b k b k c a a a a a a a"
 exact Zam Zdr (Zab (pv 1)) Zag
 fail "~d A g a f"
 refine Zam Zdr ?_ (Zab (pv 2))
 refine Zam Zgg ?_ ?_
 fail "~C"
 exact Zam Zdr (Zab (pv 0)) Zag
 refine Zam Zgg Zag ?_
 fail "~2 W C"
 exact Zam Zgg (Zab (pv 1)) (Zab (pv 1))
 fail "~aF d A g a f t"
 exact Zam Zmh (Zab (pv 3)) Zag
 fail "~d A g a f"
 refine Zam Zdr ?_ (Zab (pv 2))
 fail "~W C"
 exact Zam Zgg (Zab (pv 3)) Zag
 fail "~aF e j"
 refine Zam Zjl ?_ Zag
 fail "~t"
 exact Zam Zmh (Zab (pv 3)) Zag
theorem ok_law_digits (T : Top K mg) : Fn P w K mg base 2 "_law_digits" ["cell", "many"] Zcl := by
 refine (fun h => h : _ → Fn P w K mg base 2 "_law_digits" ["cell", "many"] (Zbp 2 6 Zc8)) (Zc0 (N := ["cell", "many", "found", "left_over", "wide", "k"]) (k := 1) T.t_law_digits Zfp (by fail "~U2") ?_)
 intro f cdv A outer s H E hr
 unfold Zc8
 have nd := Zfp.nd
 fail "~d F g a f J d A g a f 1 a b l c a d I g a f"
 refine Zde Zsg (Zab (pv 3)) ?_ (Zas _)
 fail "~ak d y a Q a b r c a L g a f e an G R"
 exact Zfs (Zab (pv 4)) (fun _ => rfl)
 fail "~S"
 exact Zar Zi3 (Zab (pv 3)) Zag (Zas _)
 fail "~d B ar b"
 exact Zam Zdr (Zab (pv 3)) Zag
 fail "~c a e A g a f"
 exact Zam Zjl (Zab (pv 3)) Zag
 fail "~e B ar b"
 refine Za0 (Zor T) (hr.mono (by decide)) ?_ ?_
 fail "~a b l b ao c a a c a e"
 exact Zds (Zab (pv 2))
theorem ok_law_at (T : Top K mg) : Fn P w K mg base 1 "_law_at" ["script", "k"] Zd4 := by
 refine (fun h => h : _ → Fn P w K mg base 1 "_law_at" ["script", "k"] (Zbp 2 2 Zfn)) (Zc0 (N := ["script", "k"]) (k := 0) T.t_law_at Zpo (by fail "~U2") ?_)
 intro f cdv A outer s H E hr
 unfold Zfn
 fail "~d h"
 refine Zar Zn5 (Zab (pv 1)) ?_ (Zas _)
 fail "~n a b l c a e j"
 exact Zbv ixf (Zab (pv 0)) (Zab (pv 1)) (fun _ _ => rfl)
 fail "~e j C W aF n a b l c a"
theorem Zkm (T : Top K mg) : Fn P w K mg base 1 "_law_kinds" ["some", "many"] Ze9 := by
 refine (fun h => h : _ → Fn P w K mg base 1 "_law_kinds" ["some", "many"] (Zbp 2 5 Zdm)) (Zc0 (N := ["some", "many", "found", "k", "kind"]) (k := 0) T.t_law_kinds Zgr (by fail "~U2") ?_)
 intro f cdv A outer s H E hr
 unfold Zdm
 have nd := Zgr.nd
 fail "~d F g a f J d y a Q a b r c a 3 g a f d I g a f H s b q b q c a a t"
 refine Zbv ixf (Zab (pv 0)) ?_ (fun _ _ => rfl)
 exact Zam Zbi Zag (Zab (pv 3))
 fail "~d h E t Z e I g a f H s b q b q c a a t aI Z d h E t Z e I g a f H s b q b q c a a"
 refine Zdi Zlx ?_ T.n_int Zna ?_
 fail "~a b"
 refine Zde Zi3 ?_ Zag (Zas _)
 fail "~t"
 refine Zbv ixf (Zab (pv 0)) ?_ (fun _ _ => rfl)
 exact Zam Zbi Zag (Zab (pv 3))
 fail "~c a e B ar b z c a e j ae a b i c a"
theorem ok_law_row (T : Top K mg) : Fn P w K mg base 3 "_law_row" ["cell", "many", "wide"] Zdv := by
 refine (fun h => h : _ → Fn P w K mg base 3 "_law_row" ["cell", "many", "wide"] (Zbp 3 6 Zen)) (Zc0 (N := ["cell", "many", "wide", "some", "found", "k"]) (k := 2) T.t_law_row Zje (by fail "~U3") ?_)
 intro f cdv A outer s H E hr
 unfold Zen
 have nd := Zje.nd
 fail "~d A g a f ab a b l b 2 c a a d I g a f J d y a Q a b r c a L g a f e h"
 refine Zar Zn5 ?_ ?_ (Zas _)
 fail "~6 aC"
 exact Zam Zbi Zag (Zab (pv 5))
 fail "~2"
 refine Zam Zbi (Zab (pv 2)) ?_
 fail "~t"
 exact Zbv ixf (Zab (pv 3)) Zag (fun _ _ => rfl)
 fail "~e B"
 refine Zfo PySem.F.slot_list_append PySem.F.type_list_append Zdh (Zab (pv 4)) ?_
 fail "~b H s b"
 exact Zam Zbi (Zab (pv 5)) Zag
 fail "~b X"
 exact Zam Zhg Zag (Zab (pv 5))
 fail "~c a a t"
 refine Zam Zjl ?_ ?_
 fail "~aC"
 exact Zam Zbi Zag (Zab (pv 5))
 fail "~2 c a e j ae a b z c a"
theorem Zed (T : Top K mg) : Fn P w K mg base 4 "_law_bad_drawn" ["many", "some"] Zbz := by
 refine (fun h => h : _ → Fn P w K mg base 4 "_law_bad_drawn" ["many", "some"] (Zbp 2 5 Zbt)) (Zc0 (N := ["many", "some", "row", "at", "odd"]) (k := 3) T.t_law_bad_drawn Zeb (by fail "~U2") ?_)
 intro f cdv A outer s H E hr
 unfold Zbt
 have nd := Zeb.nd
 fail "~d F g a f ad a b D b l b k c a a a d A g a f 6 D W n a b i c a d I g a f H s b ag b"
 refine Zam Zhg ?_ (Zab (pv 0))
 fail "~Y b k b K b T b q b ak b o b k c a b s b k c a c a a a a a a a a a t D d h G R E t D S"
 refine Zar Zi3 ?_ Zag (Zas _)
 fail "~n a b i c a e j"
 refine Zwn (f := eUn Zmq (eC (.int 1))) (Zab (pv 2)) ?_ (fun _ _ => rfl)
 fail "~Y d h G R E t D S"
 refine Zar (Zn6 hr.units) (Zab (pv 2)) ?_ (Zas _)
 fail "~N e j C C ah 5 ah M aG 5 d h E t D e j C C ah 5 o b z c a aG"
 refine Zdp ?_
 exact Zam Zbi (Zab (pv 3)) Zag
 fail "~e j C C ah 5 o b z c a aG 5"
theorem Ze0 (T : Top K mg) : Fn P w K mg base 5 "_law_bad_row" ["many", "some"] Zcr := by
 refine (fun h => h : _ → Fn P w K mg base 5 "_law_bad_row" ["many", "some"] (Zbp 2 4 Zcq)) (Zc0 (N := ["many", "some", "low", "rows"]) (k := 4) T.t_law_bad_row Ze1 (by fail "~U2") ?_)
 intro f cdv A outer s H E hr
 unfold Zcq
 have nd := Ze1.nd
 fail "~d h E t D e j"
 refine Za0 (Zed T) (hr.mono (by decide)) ?_ ?_
 fail "~a b l b r c a a d F g a f"
 refine Zam Zbi Zag ?_
 fail "~6 D ag d A g a f s b o b ag c a b o b X"
 exact Zam Zhg Zag (Zab (pv 0))
 fail "~c a b o b k c a b o b K c a b o b q c a b T b q b i b J b o b i b i c a a b o b i b"
 exact Zm1 Zkk (Zab (pv 2))
 fail "~c a a b o b T c a c a a a a a a a a a a a a d A g a f aI s b s b i c a b o b ak c a b o b o b i c a c a b o b i b k c a a c a a a a d h"
 exact Zar Zi3 (Zab (pv 0)) Zag (Zas _)
 fail "~e A g a f aI s b o b k b k c a a b o b l b Y c a a b s b k b k c a a b o b k b k b k c a a a c a a a a e j aC 6 D n a b p c a"
theorem Zgi (T : Top K mg) : Fn P w K mg base 1 "_law_bad_number" ["many", "some"] Zdc := by
 refine (fun h => h : _ → Fn P w K mg base 1 "_law_bad_number" ["many", "some"] (Zbp 2 2 Zbl)) (Zc0 (N := ["many", "some"]) (k := 0) T.t_law_bad_number Zgd (by fail "~U2") ?_)
 intro f cdv A outer s H E hr
 unfold Zbl
 fail "~e j H s b l b Y b K b T b q b ak b s b k c a b ag b o b k c a b K c a a a a a a a a a a t D"
theorem Zmu (T : Top K mg) : Fn P w K mg base 1 "_law_lost" ["rows", "play"] Zf9 := by
 refine (fun h => h : _ → Fn P w K mg base 1 "_law_lost" ["rows", "play"] (Zbp 2 4 Zdx)) (Zc0 (N := ["rows", "play", "row", "right"]) (k := 0) T.t_law_lost Zfc (by fail "~U2") ?_)
 intro f cdv A outer s H E hr
 unfold Zdx
 fail "~d y a"
 exact Ze8 (Zab (pv 0))
 refine Zcs (i := 2) ?_ ?_ ?_
 exact Zfc.nd
 fail "~a f d"
 refine Zrj (i := 3) (cn := ["play"]) ?_ (Znn (x := "literal") (cn := ["play"]) (ci := [1]) (by decide +kernel)) ?_ ?_ ?_ ?_ ?_ ?_
 fail "~a al O"
 refine Ztv ?_
 refine Zar (Zcz hr.units) ?_ ?_ (Zas _)
 refine Zbv ixf (Zab (pv 1)) ?_ (fun _ _ => rfl)
 fail "~X 1 a b l c a"
 exact Zde Zi3 (Zab (pv 0)) Zag (Zas _)
 fail "~O l"
 exact Zfc.nd
 fail "~a a e h"
 refine Zar (Zcz hr.units) (Zab (pv 3)) ?_ (Zas _)
 fail "~J e v e v"
theorem Zfx (T : Top K mg) : Fn P w K mg base 2 "_law_winner" ["kinds", "rows"] Zcj := by
 refine (fun h => h : _ → Fn P w K mg base 2 "_law_winner" ["kinds", "rows"] (Zbp 2 9 Zc4)) (Zc0 (N := ["kinds", "rows", "level", "kind", "wins", "size", "more", "play", "both_v"]) (k := 1) T.t_law_winner Zf1 (by fail "~U2") ?_)
 intro f cdv A outer s H E hr
 unfold Zc4
 have nd := Zf1.nd
 fail "~d F g a f s b N c a d y a"
 exact Ze8 (Zab (pv 0))
 fail "~3 g a f e F g a f C"
 refine Zpl (cn := []) ?_ (Znn (x := "play") (cn := []) (ci := []) (by decide +kernel)) ?_ ?_ ?_
 fail "~a al O"
 exact Zjz
 fail "~O"
 refine Zam Zbi (Zab (pv 0)) ?_
 fail "~o b K c a"
 refine Zpl (cn := []) ?_ (Znn (x := "play") (cn := []) (ci := []) (by decide +kernel)) ?_ ?_ ?_
 fail "~a al O"
 exact Zjz
 fail "~O"
 refine Zam Zbi (Zab (pv 0)) ?_
 fail "~o b K c a d I g a f"
 refine Zdi (Zl5 (by rfl) hr.units) ?_ T.n_dict Zxq ?_
 fail "~a b"
 refine Zpl (cn := ["rows"]) ?_ (Znn (x := "play") (cn := ["rows"]) (ci := [1]) (by decide +kernel)) ?_ ?_ ?_
 fail "~a al O"
 exact Zjz
 fail "~O o b l b"
 refine Zj9 ?_
 refine Za0 (Zmu T) (hr.mono (by decide)) ?_ ?_
 fail "~a b r b l c a a c a a c a d y a"
 refine Zo6 ?_ T.n_range ?_
 fail "~a b X n a b l c a b Y b Y c a a a L g a f d"
 refine Zb8 (i := 6) ?_ ?_ ?_ Zj7
 fail "~g a f d y a"
 exact Zp6 (Zab (pv 4))
 refine Zcs (i := 7) ?_ ?_ ?_
 fail "~g a f e h x w"
 exact Zbv ixf (Zab (pv 7)) (Zab (pv 5)) (fun _ _ => rfl)
 fail "~d"
 refine Zb8 (i := 8) ?_ ?_ ?_ ?_
 fail "~g a f s b"
 exact Zbv (Zpg hr.units) (Zab (pv 4)) (Zab (pv 7)) (fun _ _ => rfl)
 fail "~b"
 refine Zbv (Zpg hr.units) (Zab (pv 4)) ?_ (fun _ _ => rfl)
 fail "~C"
 refine Zby (Zab (pv 7)) Zcw ?_
 exact Zdp (Zab (pv 5))
 fail "~o b K c a c a a e"
 refine Zmk ?_ ?_
 refine Znv ?_ ?_ ?_
 refine Zar (Zcz hr.units) ?_ Zch (Zas _)
 exact Zbv ixf (Zab (pv 0)) (Zab (pv 5)) (fun _ _ => rfl)
 refine Zde (Zyh hr.units) Zm7 (Zab (pv 8)) ?_
 fail "~ap"
 refine Zde (Yau hr.units) Zm7 (Zab (pv 8)) ?_
 fail "~ap"
 refine Zp5 (Zab (pv 6)) ?_ (dsetf hr.units)
 refine Zby (Zab (pv 7)) Zcw ?_
 exact Zdp (Zab (pv 5))
 fail "~e"
 refine Zb8 (i := 4) ?_ ?_ ?_ (Zab (pv 6))
 fail "~g a f e j H s b q b q c a a"
 refine Zdi Zlx ?_ T.n_int Zna ?_
 fail "~a b"
 refine Zbv (Zpg hr.units) (Zab (pv 4)) ?_ (fun _ _ => rfl)
 fail "~N c a"
theorem Ziq (T : Top K mg) : FnI P w K mg base 1 "Keeper" ["self", "kinds"] Zd1 := by
 refine (fun h => h : _ → FnI P w K mg base 1 "Keeper" ["self", "kinds"] (Zbp 2 2 Zcp)) (fi_mk (N := ["self", "kinds"]) (k := 0) T.t_Keeper_init Zin (by fail "~U2") ?_)
 intro f cdv A outer s H E hr
 unfold Zcp
 fail "~d V m ae a b r c a d V m N e V m J"
theorem ok_Keeper_put (T : Top K mg) : FnM P w K mg base 3 "Keeper" "put" ["self", "row"] Zbg := by
 refine (fun h => h : _ → FnM P w K mg base 3 "Keeper" "put" ["self", "row"] (Zbp 2 2 Za6)) (Zr8 (N := ["self", "row"]) (k := 2) T.t_Keeper_put Zd5 (by fail "~U2") ?_)
 intro f cdv A outer s H E hr
 unfold Za6
 fail "~d h x w aA a b n a b u m c a b r c a a 4 d h"
 refine Zar Zsg ?_ ?_ (Zas _)
 fail "~n a b u m c a"
 refine Znx ?_ T.c_MOST_ROWS
 fail "~a 4 d B"
 refine Zfo PySem.F.slot_list_append PySem.F.type_list_append Zdh ?_ ?_
 fail "~u m b u m c a d V m C u m o b r c a e j X n a b u m c a"
theorem Zew (T : Top K mg) : FnXM P w K mg base 3 "Keeper" "put" ["self", "row"] "NoRow" Zay := by
 refine (fun h => h : _ → FnXM P w K mg base 3 "Keeper" "put" ["self", "row"] "NoRow" (Zl6 2 2 Zap)) (Zns (N := ["self", "row"]) (k := 2) T.t_Keeper_put Zd5 (by fail "~U2") ?_)
 intro C hE f cdv A outer s H E hr
 unfold Zap
 fail "~aq x w aA a b n a b u m c a b r c a a ai"
 exact Zfu Zch Zfd
theorem Zef (T : Top K mg) : FnXM P w K mg base 3 "Keeper" "put" ["self", "row"] "TooMany" Zbb := by
 refine (fun h => h : _ → FnXM P w K mg base 3 "Keeper" "put" ["self", "row"] "TooMany" (Zl6 2 2 Zax)) (Zns (N := ["self", "row"]) (k := 2) T.t_Keeper_put Zd5 (by fail "~U2") ?_)
 intro C hE f cdv A outer s H E hr
 unfold Zax
 refine Zsy ?_ ?_
 fail "~h x w aA a b n a b u m c a b r c a a 4 aq"
 refine Zar Zsg ?_ ?_ (Zas _)
 fail "~n a b u m c a"
 refine Znx ?_ T.c_MOST_ROWS
 fail "~a ai"
 refine Zfu ?_ Zfd
 refine Ztd ?_
 refine pj_c ?_
 refine pj_i ?_ ?_
 refine Znx ?_ T.c_MOST_ROWS
 fail "~a"
 exact pj_c Zx7
theorem ok_Keeper_out (T : Top K mg) : FnM P w K mg base 3 "Keeper" "out" ["self", "number"] Zb0 := by
 refine (fun h => h : _ → FnM P w K mg base 3 "Keeper" "out" ["self", "number"] (Zbp 2 2 Zb2)) (Zr8 (N := ["self", "number"]) (k := 2) T.t_Keeper_out Zfy (by fail "~U2") ?_)
 intro f cdv A outer s H E hr
 unfold Zb2
 fail "~d h x w"
 refine Za0 (Zei T) (hr.mono (by decide)) ?_ ?_
 fail "~a b r b n a b u m c a c a a 4 d B"
 refine Zfo PySem.F.slot_list_append PySem.F.type_list_append Zdh ?_ ?_
 fail "~u m b u m c a e V m C"
 refine Zby ?_ Zcw ?_
 fail "~u m"
 exact Zdp (Zab (pv 1))
 refine Zby ?_ ?_ Zcw
 fail "~u m"
 refine Zdp ?_
 fail "~2"
theorem Zez (T : Top K mg) : FnXM P w K mg base 3 "Keeper" "out" ["self", "number"] "NoRow" Zbs := by
 refine (fun h => h : _ → FnXM P w K mg base 3 "Keeper" "out" ["self", "number"] "NoRow" (Zl6 2 2 Za2)) (Zns (N := ["self", "number"]) (k := 2) T.t_Keeper_out Zfy (by fail "~U2") ?_)
 intro C hE f cdv A outer s H E hr
 unfold Za2
 fail "~aq x w"
 refine Za0 (Zei T) (hr.mono (by decide)) ?_ ?_
 fail "~a b r b n a b u m c a c a a ai"
 exact Zfu Zch Zfd
theorem ok_Keeper_back (T : Top K mg) : FnM P w K mg base 1 "Keeper" "back" ["self"] Zb5 := by
 refine (fun h => h : _ → FnM P w K mg base 1 "Keeper" "back" ["self"] (Zbp 1 1 Zbj)) (Zr8 (N := ["self"]) (k := 0) T.t_Keeper_back Ze4 (by fail "~U1") ?_)
 intro f cdv A outer s H E hr
 unfold Zbj
 fail "~d h E n a b u m c a 4 e V m"
 refine Zqy PySem.F.slot_list_pop PySem.F.type_list_pop Zm8 ?_
 fail "~u m"
theorem Zee (T : Top K mg) : FnXM P w K mg base 1 "Keeper" "back" ["self"] "NoBack" Zb7 := by
 refine (fun h => h : _ → FnXM P w K mg base 1 "Keeper" "back" ["self"] "NoBack" (Zl6 1 1 Zaw)) (Zns (N := ["self"]) (k := 0) T.t_Keeper_back Ze4 (by fail "~U1") ?_)
 intro C hE f cdv A outer s H E hr
 unfold Zaw
 fail "~aq E n a b u m c a ai"
 exact Zfu Zch Zfd
theorem ok_law_kind (T : Top K mg) : Fn P w K mg base 4 "_law_kind" ["keeper", "word", "thing"] Zc1 := by
 refine (fun h => h : _ → Fn P w K mg base 4 "_law_kind" ["keeper", "word", "thing"] (Zbp 3 6 Zb6)) (Zc0 (N := ["keeper", "word", "thing", "told", "e", "kinds"]) (k := 3) T.t_law_kind Zhv (by fail "~U3") ?_)
 intro f cdv A outer s H E hr
 unfold Zb6
 have nd := Zhv.nd
 obtain ⟨u0_0, u0_1, u0_2, u0_3, u0_4, J0, v0_0, v0_1, v0_2, v0_3, v0_4⟩ := T.xt_0
 obtain ⟨c_NoBack, m_NoBack, j_NoBack⟩ := T.xi_NoBack
 obtain ⟨c_TooMany, m_TooMany, j_TooMany⟩ := T.xi_TooMany
 obtain ⟨c_NoRow, m_NoRow, j_NoRow⟩ := T.xi_NoRow
 fail "~d"
 refine Zb8 (i := 3) ?_ ?_ ?_ Zch
 fail "~g a f d"
 refine Ztt (iE := 4) (L := ["NoRow", "TooMany", "NoBack"]) ?_ ?_ ?_ ?_ ?_ ?_ ?_
 fail "~e an aa e B at b i c a e an aa e B au b i c a e B aw"
 refine Zuy ?_ ?_ ?_
 fail "~aa"
 refine Zj0 ?_
 refine Zz5 ?_ ?_
 refine Zj6 (k := 3) (ps := ["self", "row"]) ?_ ?_ ?_ ?_ (Zab (pv 0)) ?_
 exact (Zew T)
 fail "~aj m am b i c a"
 refine Zj6 (k := 3) (ps := ["self", "row"]) ?_ ?_ ?_ ?_ (Zab (pv 0)) ?_
 exact (Zef T)
 fail "~aj m am b i c a"
 refine Zuy ?_ ?_ ?_
 fail "~aa"
 refine Zj0 ?_
 refine Zj6 (k := 3) (ps := ["self", "number"]) ?_ ?_ ?_ ?_ (Zab (pv 0)) ?_
 exact (Zez T)
 fail "~aj m am b i c a"
 refine Zj0 ?_
 refine Zrp (k := 1) (ps := ["self"]) ?_ ?_ ?_ ?_ (Zab (pv 0))
 exact (Zee T)
 fail "~aj m am"
 exact T.x_ClaimError
 fail "~g a a"
 intro ex
 fail "~d"
 refine Zb8 (i := 5) ?_ ?_ ?_ ?_
 fail "~g a f s b"
 refine Zmb (t := [("NoRow", true), ("TooMany", false), ("NoBack", false)]) (c := c_NoRow) (L := ["NoRow", "TooMany", "NoBack"]) ?_ ?_ (Zab (pv 4)) ?_ ?_ ?_
 exact T.x_l
 fail "~a"
 exact m_NoRow
 exact j_NoRow
 fail "~8 b"
 refine Zmb (t := [("NoRow", false), ("TooMany", true), ("NoBack", false)]) (c := c_TooMany) (L := ["NoRow", "TooMany", "NoBack"]) ?_ ?_ (Zab (pv 4)) ?_ ?_ ?_
 exact T.x_l
 fail "~a"
 exact m_TooMany
 exact j_TooMany
 fail "~8 b"
 refine Zmb (t := [("NoRow", false), ("TooMany", false), ("NoBack", true)]) (c := c_NoBack) (L := ["NoRow", "TooMany", "NoBack"]) ?_ ?_ (Zab (pv 4)) ?_ ?_ ?_
 exact T.x_l
 fail "~a"
 exact m_NoBack
 exact j_NoBack
 fail "~8 b"
 refine Zj9 ?_
 refine Zus (t := [("NoRow", true), ("TooMany", true), ("NoBack", true)]) (L := ["NoRow", "TooMany", "NoBack"]) ?_ ?_ (Zab (pv 4)) ?_ ?_ ?_
 exact T.x_l
 fail "~a"
 exact T.x_v
 fail "~8"
 exact T.n_ValueError
 fail "~c a a a a d B as b"
 refine Ztf (t := [("NoRow", false), ("TooMany", false), ("NoBack", false)]) (cs := [u0_0, u0_1, u0_2, u0_3, u0_4]) (L := ["NoRow", "TooMany", "NoBack"]) ?_ ?_ (Zab (pv 4)) ?_ ?_ ?_ ?_
 exact T.x_l
 fail "~a"
 exact (Zk9 (by rfl) v0_0 (Zk9 (by rfl) v0_1 (Zk9 (by rfl) v0_2 (Zk9 (by rfl) v0_3 (Zk9 (by rfl) v0_4 Zxo)))))
 exact J0
 exact (by decide : 5 ≤ 1000)
 fail "~8 c a e A g a f C"
 refine Zdi Zqg ?_ T.n_str Zyi ?_
 fail "~a b"
 refine Zfo PySem.F.slot_list_count PySem.F.type_list_count (Zoc hr.units) (Zab (pv 5)) ?_
 fail "~b K c a c a H s b q b q b q b q b q c a a a a a t"
 refine Zfo PySem.F.slot_list_index PySem.F.type_list_index (Zop hr.units) ?_ ?_
 refine Zam Zbi (Zab (pv 5)) ?_
 fail "~s b K c a b K c a e"
 exact Zds (Zab (pv 3))
theorem ok_law_row_refused (T : Top K mg) : Fn P w K mg base 5 "_law_row_refused" ["keeper", "word", "thing"] Za1 := by
 refine (fun h => h : _ → Fn P w K mg base 5 "_law_row_refused" ["keeper", "word", "thing"] (Zbp 3 4 Zbf)) (Zc0 (N := ["keeper", "word", "thing", "shown"]) (k := 4) T.t_law_row_refused Zdn (by fail "~U3") ?_)
 intro f cdv A outer s H E hr
 unfold Zbf
 fail "~d A"
 exact Zdn.nd
 fail "~a f"
 refine Zdz (Zi5 hr) ?_ T.n_repr Zq9 ?_
 fail "~a b i c a e j 7 aD az a b l b r b i c a a a"
 refine Zjk ?_
 refine Zde (Zcz hr.units) ?_ (Zab (pv 3)) (Zas _)
 refine Zdz (Zi5 hr) ?_ T.n_repr Zq9 ?_
 fail "~a b i c a"
theorem ok_law_done (T : Top K mg) : Fn P w K mg base 5 "_law_done" ["keeper", "kept", "word", "thing"] Zbc := by
 refine (fun h => h : _ → Fn P w K mg base 5 "_law_done" ["keeper", "kept", "word", "thing"] (Zbp 4 7 Zb3)) (Zc0 (N := ["keeper", "kept", "word", "thing", "rows", "elder", "told"]) (k := 4) T.t_law_done Zif (by fail "~U4") ?_)
 intro f cdv A outer s H E hr
 unfold Zb3
 have nd := Zif.nd
 fail "~d"
 refine Zmk (Zab (pv 1)) ?_
 refine Zvl ?_ ?_
 fail "~a"
 refine Zdy ?_ ?_
 refine Zcs (i := 4) ?_ ?_ ?_
 fail "~g a f"
 refine Zdy ?_ Zjm
 fail "~L g a f d h"
 exact Zar (Zcz hr.units) (Zab (pv 2)) Zch (Zas _)
 fail "~d h E n a b z c a e j aD az a b l b q b p c a a a d"
 refine Zb8 (i := 6) ?_ ?_ ?_ ?_
 fail "~g a f at b p c a d B as b aE a b z c a c a d B"
 refine Zfo PySem.F.slot_list_append PySem.F.type_list_append Zdh (Zab (pv 4)) ?_
 fail "~b p c a e j 7 P a b"
 exact (Zab (pv 6))
 fail "~b"
 refine Zhh ?_ T.n_int Zna
 fail "~a c a a 7"
 refine Zj9 ?_
 fail "~P a b"
 exact (Zab (pv 6))
 fail "~b"
 refine Zhh ?_ T.n_bool Zr3
 fail "~a c a a"
 refine Zjk ?_
 refine Zde (Zcz hr.units) (Zab (pv 6)) ?_ (Zas _)
 fail "~X n a b z c a d h"
 exact Zar (Zcz hr.units) (Zab (pv 2)) Zch (Zas _)
 fail "~d B as b aE a b z c a c a d B"
 refine Zfo PySem.F.slot_list_pop PySem.F.type_list_pop Zwh (Zab (pv 4)) ?_
 fail "~b p c a e j"
 refine Zde Zu7 ?_ Zhx (Zas _)
 fail "~au b p c a d h"
 refine Zar (Zcz hr.units) (Zab (pv 5)) ?_ (Zas _)
 fail "~J e j aD az a b l b q b T c a a a d"
 refine Zmk ?_ ?_
 exact Zqy PySem.F.slot_list_pop PySem.F.type_list_pop Zm8 (Zab (pv 5))
 exact Zp5 (Zab (pv 1)) Zag setf
 fail "~e j"
 refine Zde Zu7 ?_ Zhx (Zas _)
 fail "~aw"
theorem Zms (T : Top K mg) : Fn P w K mg base 6 "_law_turn" ["keeper", "kept", "many", "cell"] Zgm := by
 refine (fun h => h : _ → Fn P w K mg base 6 "_law_turn" ["keeper", "kept", "many", "cell"] (Zbp 4 6 Zd0)) (Zc0 (N := ["keeper", "kept", "many", "cell", "some", "way"]) (k := 5) T.t_law_turn Zfh (by fail "~U4") ?_)
 intro f cdv A outer s H E hr
 unfold Zd0
 fail "~d I"
 exact Zfh.nd
 fail "~a f"
 refine Zby ?_ ?_ Zcw
 fail "~ab a b p b k c a a M d"
 refine Zb8 (i := 5) ?_ ?_ ?_ ?_
 exact Zfh.nd
 fail "~a f t U d h"
 exact Zar Zn5 (Zab (pv 5)) Zag (Zas _)
 fail "~e j 0 a b l b r b q b ad a b p b i b k c a a a c a a a a d h ax e j ay a b l b q b"
 refine Za0 (Ze0 T) (hr.mono (by decide)) ?_ ?_
 fail "~a b i b"
 refine Zby (Zab (pv 4)) ?_ Zcw
 fail "~M c a a c a a a d h ax e j ay a b l b q b"
 refine Za0 (Zgi T) (hr.mono (by decide)) ?_ ?_
 fail "~a b n a b D c a b"
 refine Zby (Zab (pv 4)) ?_ Zcw
 fail "~M c a a c a a a d h G R ax S af D J e j 0 a b l b r b q b 6 U n a b D c a c a a a a e j 0 a b l b r b q b T c a a a a"
theorem ok_Keeper_claim (T : Top K mg) : FnM P w K mg base 1 "Keeper" "claim" ["self"] Za9 := by
 refine (fun h => h : _ → FnM P w K mg base 1 "Keeper" "claim" ["self"] (Zbp 1 1 Zb9)) (Zr8 (N := ["self"]) (k := 0) T.t_Keeper_claim Zhe (by fail "~U1") ?_)
 intro f cdv A outer s H E hr
 unfold Zb9
 fail "~e j o b u m b u m c a a"
theorem ok_law_stands (T : Top K mg) : Fn P w K mg base 2 "_law_stands" ["keeper", "kinds", "kept"] Zbw := by
 refine (fun h => h : _ → Fn P w K mg base 2 "_law_stands" ["keeper", "kinds", "kept"] (Zbp 3 4 Zc6)) (Zc0 (N := ["keeper", "kinds", "kept", "told"]) (k := 1) T.t_law_stands Zf3 (by fail "~U3") ?_)
 intro f cdv A outer s H E hr
 unfold Zc6
 fail "~d A"
 exact Zf3.nd
 fail "~a f av d h G 9 x w P a b p b"
 refine Zhh ?_ T.n_tuple Zha
 fail "~a c a a"
 refine Zjr ?_
 fail "~x w P a b"
 exact Zbv ixf (Zab (pv 3)) Zag (fun _ _ => rfl)
 fail "~b"
 refine Zhh ?_ T.n_tuple Zha
 fail "~a c a a e v e j"
 refine Zde (Zcz hr.units) (Zab (pv 3)) ?_ (Zas _)
 fail "~o b r b ae a b"
 exact Zbv ixf (Zab (pv 2)) Zag (fun _ _ => rfl)
 fail "~c a c a a"
theorem Zmi (T : Top K mg) : Fn P w K mg base 4 "_law_long" ["keeper", "many", "cell"] Zes := by
 refine (fun h => h : _ → Fn P w K mg base 4 "_law_long" ["keeper", "many", "cell"] (Zbp 3 6 Zdw)) (Zc0 (N := ["keeper", "many", "cell", "row", "rounds", "k"]) (k := 3) T.t_law_long Zho (by fail "~U3") ?_)
 intro f cdv A outer s H E hr
 unfold Zdw
 have nd := Zho.nd
 fail "~d A g a f ad a b i b r b k c a a a d I g a f"
 refine Zam Zbi Zag ?_
 exact Zam Zdr (Zab (pv 2)) Zag
 fail "~d y a Q a b z c a L g a f e h G 9"
 refine Zar (Zn6 hr.units) ?_ Zag (Zas _)
 fail "~at b p c a"
 refine Zjr ?_
 refine Zar Zpn ?_ Zhx (Zas _)
 fail "~au b k c a e v d y a Q a b"
 exact Zam Zgg Zag (Zab (pv 4))
 fail "~c a L g a f e h G 9 af"
 refine Zbv ixf ?_ Zag (fun _ _ => rfl)
 fail "~av H s b N b o b p c a c a a"
 exact Zam Zdr (Zab (pv 5)) Zag
 refine Zjr ?_
 refine Zar Zpn ?_ Zhx (Zas _)
 fail "~aw e v e v"
theorem Zec (T : Top K mg) : FnM P w K mg base 14 "Keeper" "winner" ["self"] Zbd := by
 refine (fun h => h : _ → FnM P w K mg base 14 "Keeper" "winner" ["self"] (Zbp 1 1 Zbx)) (Zr8 (N := ["self"]) (k := 13) T.t_Keeper_winner Zg0 (by fail "~U1") ?_)
 intro f cdv A outer s H E hr
 unfold Zbx
 fail "~e j"
 refine Za0 (Zs7 (Zsa T) T.a_winner_games) (hr.mono (by decide)) ?_ ?_
 fail "~a b av b N c a a"
theorem Zy3 (T : Top K mg) : Fn P w K mg base 15 "law" ["script"] Zo2 := by
 refine (fun h => h : _ → Fn P w K mg base 15 "law" ["script"] (Zbp 1 9 Zq8)) (Zc0 (N := ["script", "some", "kinds", "keeper", "kept", "cell", "k", "bad", "thing"]) (k := 14) T.t_law Zu4 (by fail "~U1") ?_)
 intro f cdv A outer s H E hr
 unfold Zq8
 have nd := Zu4.nd
 fail "~d"
 refine Zb8 (i := 1) ?_ ?_ ?_ ?_
 fail "~g a f ab a b aB a b l b k c a a b k c a a d F g a f"
 refine Za0 (Zkm T) (hr.mono (by decide)) ?_ ?_
 fail "~a b aH M b t D c a a d A g a f"
 refine Zsv (Ziq T) (hr.mono (by decide)) ?_ ?_
 fail "~a b i c a d I g a f s b J b J c a a d y a"
 refine Ze8 ?_
 fail "~C s b k c a aE a b l c a L g a f d h x w"
 refine Za0 (Zms T) (hr.mono (by decide)) ?_ ?_
 fail "~a b p b z b n a b i c a b ao c a a a a e v e h G R E t"
 refine Zbv ixf ?_ Zag (fun _ _ => rfl)
 fail "~ab a b ao b k c a a S x w ac a b p b i b z c a a a e v d h x w ac a b p b i b z c a a a e v d y a Q a b"
 refine Zam Zhg Zag ?_
 fail "~n a b U c a c a"
 refine Zcs (i := 6) ?_ ?_ ?_
 fail "~g a f d h x w 0 a b p b z b q b ad a b"
 exact (Zab (pv 6))
 fail "~b n a b i c a b k c a a a c a a a a e v e h x w ac a b p b i b z c a a a e v d h af"
 exact Zel (Zec T) (hr.mono (by decide)) (Zab (pv 3))
 refine Za0 (Zfx T) (hr.mono (by decide)) ?_ ?_
 fail "~a b i b U c a a e v d"
 refine Zb8 (i := 7) ?_ ?_ ?_ ?_
 fail "~g a f"
 refine Za0 (Ze0 T) (hr.mono (by decide)) ?_ ?_
 fail "~a b n a b i c a b aH M c a a d y a"
 refine Ze8 ?_
 fail "~s b o b W n a b i c a c a b"
 exact (Zab (pv 7))
 fail "~b"
 refine Za0 (Zed T) (hr.mono (by decide)) ?_ ?_
 fail "~a b n a b i c a b aH M c a a c a a a"
 refine Zcs (i := 8) ?_ ?_ ?_
 fail "~g a f d h x w ay a b p b q b"
 exact (Zab (pv 8))
 fail "~c a a a e v e h af"
 exact Zel (Zec T) (hr.mono (by decide)) (Zab (pv 3))
 refine Za0 (Zfx T) (hr.mono (by decide)) ?_ ?_
 fail "~a b i b U c a a e v d y a Q a b W n a b U c a c a"
 refine Zcs (i := 6) ?_ ?_ ?_
 fail "~g a f d h x w 0 a b p b z b q b T c a a a a e v e h G R"
 refine Zar (Zcz hr.units) ?_ ?_ (Zas _)
 exact Zam Zdr (Zab (pv 6)) Zag
 fail "~t D S x w ac a b p b i b z c a a a e v d h G R E t aB a b l b k c a a S x w"
 refine Za0 (Zmi T) (hr.mono (by decide)) ?_ ?_
 fail "~a b p b n a b i c a b aB a b l b k c a a c a a a e v e j"
 refine Zde (Zcz hr.units) ?_ ?_ (Zas _)
 exact Zel (ok_Keeper_claim T) (hr.mono (by decide)) (Zab (pv 3))
 fail "~o b i b N c a a"
theorem Zyy (T : Top K mg) : Fn P w K mg base 15 "law" ["script"] Zo2 := by
 exact Zy3 T
end
theorem walk {l : PySem.W.OpenLaw} {q : Program} {loose : List Str} {XP : (Str -> Option Value) -> Heap -> Prop} {YP : World -> Heap -> Prop} {d : DefRec} {K : Params -> PySem.W.Frag} (hn : l.most = some 63) (hdf : d.params.defaults = [])
  (hd : d.name = "law") (hY : ∀ (w : World) (h : Heap), YP w h → (K w.params).In h) (hT : ∀ (w : World) (mg : Str → Option Value) (h : Heap), (K w.params).In h → h.Ns mainGlobals mg → Top (K w.params) mg)
  (pure : ∀ ns : List Int, ns.length ≤ 63 -> ∃ Hd', Zo2 [.fl (ns.map .int)] [] = some (.bl true, Hd')) : PySem.W.WalkO q loose XP YP l.row.toRowW d [] (fun f vs => PySem.call f vs) := by
 refine L2.walk_ofK (n := 63) (k := 15) (x := "script") (CX := CX0) (sp := Yao Zo2) hn (by decide) hdf ⟨rfl, by decide, by decide, rfl⟩ hY (fun w mg fa h KX G hmg => ?_) (Zqf pure) (fun _ _ _ _ z => z)
 have T := hT w mg h KX G
 obtain ⟨f, fd, F, hm⟩ := T.t_law
 have e0 : f = fa := by rw [hd] at hmg; rw [hm] at hmg; cases hmg; rfl
 subst e0
 have B := F.binds (ps := ["script"]) (fun _ _ _ _ _ _ us hl => by obtain ⟨_, rfl⟩ := us1 hl; rfl)
 refine ⟨fd, fun s u => ?_, fun base kb nb => ?_⟩
 ·obtain ⟨oc, od, kV, doc, pm, an, cdv, ct, osl, rfl, lk, hcd⟩ := F.ex
  exact .of_eq rfl
 ·obtain ⟨f', fd', G1, hb, hk, hm', oc', od', osl', lk'⟩ := (Zyy (P := l.prog) (w := w) (base := base) T).ex
  have e1 : f' = f := by rw [hm] at hm'; cases hm'; rfl
  subst e1
  have e2 : fd' = fd := by
   obtain ⟨oc, od, kV, doc, pm, an, cdv, ct, osl, e3, lk, hcd⟩ := F.ex
   rw [lk] at lk'
   have e4 := Option.some.inj lk'
   injection e4 with _ _ e5 _
   injection e5 with e6
   exact e6.symm
  subst e2
  exact G1
end K08
open PySem PySem.W PyProof.Rows L2 DL
local macro_rules | `(tactic| fail $s:str) => do
 if s.getString.take 1 != "=" then Lean.Macro.throwUnsupported
 let i := Lean.mkIdent
 match (s.getString.drop 1).toString with
  | "T" => `(tactic| (show Tf (L2.KOf $(i `KX)) _ _ _; dsimp only [L2.KOf]; refine' tf_mk $(i `KX) $(i `G) ?a ?l ?c ?k; (case a => k_is); (case l => k_is); (case c => k_is); (case k => k_is)))
  | "M" => `(tactic| (show Tm (L2.KOf $(i `KX)) _ _ _ _; dsimp only [L2.KOf]; refine' tm_mk ?za ?zb ?zc ?zd ?ze ?zg ?zh ?zi ?zj ?zl; (case za => k_is); (case zb => k_is); (case zc => k_is); (case zd => k_is); (case ze => k_is); (case zg => k_is); (case zh => k_is); (case zi => k_is); (case zj => k_is); (case zl => k_is)))
  | "N" => `(tactic| (refine' PySem.W.mg_none_of $(i `KX) $(i `G) ?z; (case z => k_is)))
  | _ => Lean.Macro.throwUnsupported
set_option maxRecDepth 100000 in
set_option maxHeartbeats 0 in
theorem PySem.Challenge.cw_allsome_k72_rows_put_and_out_holds : PySem.Challenge.rw_allsome_k72_rows_put_and_out.Holds := by
 w_on; o_law; refine holds_open (q := (PySem.Challenge.vwOf PySem.Challenge.pw_allsome_k72_rows_put_and_out)) (loose := [("winner_games" : Str), ("plan_plans" : Str)]) (Xt := PySem.Challenge.xt0) (XP := XL (PySem.Challenge.vwOf PySem.Challenge.pw_allsome_k72_rows_put_and_out) []) (Yf := Hook.obs PySem.Challenge.hk0) (Ya := Hook.val PySem.Challenge.hk0) (YP := InK PySem.Challenge.mk0.heap_39) (N := 7994) PySem.Challenge.left0 (Hook.of PySem.Challenge.hk0) (Hook.keeps PySem.Challenge.hk0) (fun s e => xl_of s (Bool.and_eq_true_iff.mp e).1) XL.keeps (by rfl) (by rfl) (by rfl) (fun s e => recFacts_of (Bool.and_eq_true_iff.mp e).2) (by rfl) (by assumption) (by decide +kernel) ⟨rfl, rfl, rfl, rfl, rfl, by decide +kernel⟩ ?hw ?hc
 (case hw => w_witness2)
 k_fill
 refine K08.walk (l := PySem.Challenge.rw_allsome_k72_rows_put_and_out) rfl rfl rfl (fun w h Y => Y) ?T K08.pure_law
 case T =>
  intro w mg h KX G
  have t_Keeper_init : Ti (L2.KOf KX) mg "Keeper" "Keeper.__init__" K08.s_Keeper_init := by
   dsimp only [L2.KOf]
   refine' ti_mk KX G ?za ?zb ?zc ?zd ?ze ?zi ?zj ?zl
   (case za => k_is); (case zb => k_is); (case zc => k_is); (case zd => k_is); (case ze => k_is); (case zi => k_is); (case zj => k_is); (case zl => k_is)
  have l_Keeper : Kl (L2.KOf KX) "Keeper" ["kinds", "rows", "past"] := by
   dsimp only [L2.KOf]
   refine' Zqs (Zqs (Zqs (kl_mk ?za ?zb ?zc ?zd ?ze) ?zn0 ?zf0) ?zn1 ?zf1) ?zn2 ?zf2
   (case za => k_is); (case zb => k_is); (case zc => k_is); (case zd => k_is); (case ze => k_is); (case zn0 => k_is); (case zf0 => k_is); (case zn1 => k_is); (case zf1 => k_is); (case zn2 => k_is); (case zf2 => k_is)
  have a_winner_games : mg "winner_games" = mg "winner" := by
   refine' al_mk KX G ?za ?zb
   (case za => k_is); (case zb => k_is)
  have c_MOST_ROWS : Gc (L2.KOf KX) mg "MOST_ROWS" K08.k_MOST_ROWS := by
   dsimp only [L2.KOf]
   refine' Yan KX G ?a
   (case a => k_is)
  have c_TRUTHS : Gc (L2.KOf KX) mg "TRUTHS" K08.k_TRUTHS := by
   dsimp only [L2.KOf]
   refine' Zrn KX G ?a ?l
   (case a => k_is); (case l => k_is)
  have x_ClaimError : Cat (L2.KOf KX) mg "ClaimError" ["NoRow", "TooMany", "NoBack"] := by
   dsimp only [L2.KOf]
   refine' ⟨_, Zjw KX G ?za2 ?zf2 ?zp2 ?zq2 (Zjw KX G ?za1 ?zf1 ?zp1 ?zq1 (Zjw KX G ?za0 ?zf0 ?zp0 ?zq0 (Zvy KX G ?zb)))⟩
   (case zb => k_is); (case za0 => k_is); (case zf0 => k_is); (case zp0 => kernel_rfl); (case zq0 => kernel_rfl); (case za1 => k_is); (case zf1 => k_is); (case zp1 => kernel_rfl); (case zq1 => kernel_rfl); (case za2 => k_is); (case zf2 => k_is); (case zp2 => kernel_rfl); (case zq2 => kernel_rfl)
  have x_l : Zl1 (L2.KOf KX) ["NoRow", "TooMany", "NoBack"] := by
   dsimp only [L2.KOf]
   refine' Zmx ?za2 ?zg2 ?zh2 ?zi2 ?zj2 ?zl2 ?zm2 ?zn2 ?zo2 (Zmx ?za1 ?zg1 ?zh1 ?zi1 ?zj1 ?zl1 ?zm1 ?zn1 ?zo1 (Zmx ?za0 ?zg0 ?zh0 ?zi0 ?zj0 ?zl0 ?zm0 ?zn0 ?zo0 (Yaa)))
   (case za0 => k_is); (case zg0 => k_is); (case zh0 => k_is); (case zi0 => k_is); (case zj0 => k_is); (case zl0 => k_is); (case zm0 => k_is); (case zn0 => k_is); (case zo0 => k_is); (case za1 => k_is); (case zg1 => k_is); (case zh1 => k_is); (case zi1 => k_is); (case zj1 => k_is); (case zl1 => k_is); (case zm1 => k_is); (case zn1 => k_is); (case zo1 => k_is); (case za2 => k_is); (case zg2 => k_is); (case zh2 => k_is); (case zi2 => k_is); (case zj2 => k_is); (case zl2 => k_is); (case zm2 => k_is); (case zn2 => k_is); (case zo2 => k_is)
  have xi_NoBack : ∃ c, mg "NoBack" = some (.ref c) ∧ Is1 (L2.KOf KX) (.ref c) [("NoRow", false), ("TooMany", false), ("NoBack", true)] := by
   dsimp only [L2.KOf]
   refine' ⟨_, Zgv KX G ?zc, Zcc ?za2 ?zs2 (Zcc ?za1 ?zs1 (Zcc ?za0 ?zs0 (Zjy)))⟩
   (case zc => k_is); (case za0 => k_is); (case za1 => k_is); (case za2 => k_is); (case zs0 => kernel_rfl); (case zs1 => kernel_rfl); (case zs2 => kernel_rfl)
  have xi_TooMany : ∃ c, mg "TooMany" = some (.ref c) ∧ Is1 (L2.KOf KX) (.ref c) [("NoRow", false), ("TooMany", true), ("NoBack", false)] := by
   dsimp only [L2.KOf]
   refine' ⟨_, Zgv KX G ?zc, Zcc ?za2 ?zs2 (Zcc ?za1 ?zs1 (Zcc ?za0 ?zs0 (Zjy)))⟩
   (case zc => k_is); (case za0 => k_is); (case za1 => k_is); (case za2 => k_is); (case zs0 => kernel_rfl); (case zs1 => kernel_rfl); (case zs2 => kernel_rfl)
  have xi_NoRow : ∃ c, mg "NoRow" = some (.ref c) ∧ Is1 (L2.KOf KX) (.ref c) [("NoRow", true), ("TooMany", false), ("NoBack", false)] := by
   dsimp only [L2.KOf]
   refine' ⟨_, Zgv KX G ?zc, Zcc ?za2 ?zs2 (Zcc ?za1 ?zs1 (Zcc ?za0 ?zs0 (Zjy)))⟩
   (case zc => k_is); (case za0 => k_is); (case za1 => k_is); (case za2 => k_is); (case zs0 => kernel_rfl); (case zs1 => kernel_rfl); (case zs2 => kernel_rfl)
  have x_v : Is1 (L2.KOf KX) (.type "ValueError") [("NoRow", true), ("TooMany", true), ("NoBack", true)] := by
   dsimp only [L2.KOf]
   refine' Zcc ?za2 ?zs2 (Zcc ?za1 ?zs1 (Zcc ?za0 ?zs0 (Zjy)))
   (case za0 => k_is); (case za1 => k_is); (case za2 => k_is); (case zs0 => kernel_rfl); (case zs1 => kernel_rfl); (case zs2 => kernel_rfl)
  have xt_0 : ∃ c0 c1 c2 c3 c4, IsN (L2.KOf KX) [c0, c1, c2, c3, c4] [("NoRow", false), ("TooMany", false), ("NoBack", false)] ∧ mg "NoLine" = some (.ref c0) ∧ mg "NoPick" = some (.ref c1) ∧ mg "NoStep" = some (.ref c2) ∧ mg "NoText" = some (.ref c3) ∧ mg "NotWon" = some (.ref c4) := by
   dsimp only [L2.KOf]
   refine' ⟨_, _, _, _, _, Zj1 ?za2 ?zs2 (Zj1 ?za1 ?zs1 (Zj1 ?za0 ?zs0 (Zwt))), Zgv KX G ?zc0, Zgv KX G ?zc1, Zgv KX G ?zc2, Zgv KX G ?zc3, Zgv KX G ?zc4⟩
   (case zc0 => k_is); (case zc1 => k_is); (case zc2 => k_is); (case zc3 => k_is); (case zc4 => k_is); (case za0 => k_is); (case za1 => k_is); (case za2 => k_is); (case zs0 => kernel_rfl); (case zs1 => kernel_rfl); (case zs2 => kernel_rfl)
  exact ⟨by fail "=T", by fail "=T", by fail "=T", by fail "=T", by fail "=T", by fail "=T", by fail "=T", by fail "=T", by fail "=T", by fail "=T", by fail "=T", by fail "=T", by fail "=T", by fail "=T", by fail "=T", by fail "=T", by fail "=T", by fail "=T", by fail "=T", t_Keeper_init, by fail "=M", by fail "=M", by fail "=M", by fail "=T", by fail "=T", by fail "=T", by fail "=T", by fail "=M", by fail "=T", by fail "=T", by fail "=M", by fail "=T", l_Keeper, a_winner_games, by fail "=N", by fail "=N", by fail "=N", by fail "=N", by fail "=N", by fail "=N", by fail "=N", by fail "=N", by fail "=N", by fail "=N", by fail "=N", by fail "=N", by fail "=N", c_MOST_ROWS, c_TRUTHS, x_ClaimError, x_l, xi_NoBack, xi_TooMany, xi_NoRow, x_v, xt_0⟩
