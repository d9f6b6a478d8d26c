import PyProof.Rows.All
import Wide.All
import Wide.FinOn
import Lean
import PyProof.EqAt
import PyProof.EqKinds
import PyProof.TupleCall
import KE.KDictList
import KE.KDictOf
import KE.KIntText
import KE.KItemsList
import KE.KSortKey
import KE.KSortTup
import KE.KTryMore
import PyProof.AttrMissHeap
import PyProof.AutoSeq1
import PyProof.ExcAttrAll.ValueError
import PyProof.FitsBits
import PyProof.MeetsStr2
import PyProof.MinMaxWalk
import PyProof.P3Eq
import PyProof.P3In
import PyProof.ReprLen
import PyProof.Rows.DictRows
import PyProof.Rows.Own
import PyProof.Rows.RuleB_bool
import PyProof.Rows.TupIter
import PyProof.SeqI3
import PyProof.StrBlockG
import PyProof.StrOps2
import PyProof.StrWalks
import PyProof.SumWalkG
import PyProof.TupleOfSeq
import PyProof.WalkInts
import KE.KRevSl
import KE.KDictList
import KE.KSortAsk
import KE.KSortKey
import KE.KTryMore
import PySem.Challenge.RW_allsome_k29_terms_made_by_steps
set_option Elab.async false
set_option compiler.extract_closed false
set_option bootstrap.genMatcherCode false
set_option linter.all false
set_option maxRecDepth 100000
open PySem.PyData renaming eqv → Ua, canLayAll0 → Ut, weightAll → Uz, eqvAll → Tab, canLay0 → Tac, int → Tah, depthAll → Tau, leavesShort → Tav, depth → Tay, strOk → Tba, leavesShortAll → Tbb, showableAll → Tbm, bool → Tbs, list → Tbt, shown → Tbz
open PySem.Str renaming ofString → Ub
open PyProof.Rows renaming slot_tuple_getitem → Uc, callWith_type1 → Uu, callWith_builtin1 → Tax
open PySem.Value renaming ref → Ud, none → Ur, builtin → Us, type → Tca, bool → Tcd
open False renaming elim → Ue
open PySem.NameKind renaming free → Uf, cell → Tad
open PySem.Builtin.Tuple renaming tupleExact → Ug, tupleItemsOf → Tan, tupleTooMany → Tbi, tupleIsExact → Tbj, tupleHashOf → Tbo
open PySem.Builtin.Slice renaming slicePlaces → Uh, sliceApplied → Ux, sliceAdjust → Tao, sliceFields → Tbn
open Ne renaming symm → Ui
open PySem.F renaming slot_enumerate_next → Uj, slot_list_append → Um, type_list_append → Uo, slot_dict_keyiterator_next → Uq, slot_tuple_iterator_next → Uy, args_enumerate_next_1 → Tae, attr_ValueError → Tag, entry_enumerate_next → Tai, slot_tuple_mul → Tap, args_tuple_add_2 → Taq, entry_tuple_add → Tat, slot_tuple_add → Taw, args_dict_keyiterator_next_1 → Taz, slot_bool_hash → Tbc, entry_dict_keyiterator_next → Tbd, args_tuple_iterator_next_1 → Tbe, slot_int_rmul → Tbg, entry_tuple_iterator_next → Tbh, excBase_ValueError → Tbk, args_tuple_mul_2 → Tbl, entry_tuple_mul → Tbp, typeCall_enumerate_1 → Tbu, newCall_enumerate_1 → Tbv, entry_enumerate_new → Tbw, entry_bexc_ga → Tby, args_object_init_2 → Tcb, args_bexc_ga → Tcc
open PySem.Builtin.SmallTypes renaming ownedTupleHandOut → Uk, ownedTupleIsFree → Ul
open PySem renaming mem_of_lookup → Uv, sizeLine_eq → Tam, call → Tce
open PySem.Builtin.List renaming listExtendWith → Uw, listTooLong → Tar
open PySem.Obj renaming data_mapFields → Taa, mapFields → Taf, isFreed_of_fields → Tal, mapSeq → Tbf, cls_mapFields → Tbq
open PySem.Code renaming quiet_builtin → Taj, isFrame → Tcf
open ForInStep renaming yield → Tak
open PySem.Builtin.ObjectAttr renaming dataDescriptor? → Tas, find → Tbr
open PySem.Builtin.Dict renaming showsAll → Tbx
open Lean in
local macro_rules (kind := Lean.Parser.Command.declaration) | d => do
 if d[0].getArgs.any (fun x => x[0].isOfKind `Lean.Parser.Command.nonrec) then return d.setArg 0 (← `(command| noncomputable def a := 1)).raw[0]
 else Macro.throwUnsupported
open PySem renaming wpAny_bind → Va, Value → Vb, wpAny_pure → Vc, Shared → Vd, Addr → Ve, Program → Vf, wpAny_callSpecial?_slot → Vg, Paired → Vh, wpAny_newObj_type → Vi, wpAny_field → Vj, World → Vk, wpAny_call_entry → Vl, wpAny_loadPart' → Vm, wpAny_mono → Vn, Around → Vo, wpAny_setField_rec → Vp, Expr → Vq, wpAny_holding → Vr, PyData → Vs, wpAny_Call_Name_kw → Vt, Heap → Vu, wpAny_truthy_bool → Vv, Stmt → Vw, wpAny_typeNameOfWhole_keyiter → Vx, FuncData → Vy, wpAny_attempt → Vz, codeAny_call_builtin → Uaa, DictEntry → Uab, wpAny_passesOwn → Uac, codeAny_mono → Uad, sizeLine_eq → Uae, wpAny_setField → Uaf, wpAny_execs_nil → Uag, wpAny_loadPart_at → Uah, wpAny_call → Uaj, IsEnum → Ual, NameKind → Uam, codeAny_builtin → Uan, wpAny_pyIter_enum → Uao, wpAny_pyIter_list → Uap, wpAny_Try_except → Uaq, wpAny_execs_cons → Uar, wpAny_standAt → Uas, call_meets → Uat, wpAny_letOwnedTupleGo_enum → Uav, wpAny_pyIter_tuple → Uax, wpAny_typeOf → Uay, wpAny_binaryOp_repeat_ref → Uba, PassesOwn → Ubb, wpAny_comprehension_free → Ubc, wpAny_dictEntries → Ubd, wpAny_sequenceKey → Ube, wpAny_newList → Ubf, noFill_tuple_add → Ubg, wpAny_isInstance → Ubh, Scope → Ubi, IsEnumOut → Ubl, IsPart → Ubm, codeAny_handlers_test → Ubo, wpAny_dictEpoch → Ubp, wpAny_isOneOf_keyiter → Ubq, typeIs_int → Ubr, isSubtype_stop → Ubs, Keyword → Ubu, ClassData → Ubv, Operator → Ubw, evalPart_none → Ubx, seq_tuple_add → Uby, wpAny_rule → Uca, concat_meets → Ucc, Model → Ucf
open PySem.W renaming looks_findIn → Uai, Frag → Ucd, Looks → Ucg
open PyProof.Rows renaming IntsAre → Uak, AllBare → Uau, args_tuple_getitem → Uaw, slicePart_none → Uaz, call_function_entry_kw → Ubj, subscriptTail_builtinR → Ubk, boot_isinstance → Ubn, joinParts_cons → Ubt, tupleItemsOf_ → Ubz, call_abs_int → Ucb, IsTup → Uce
open PySem.W renaming Frag → Xa, keepIn → Waz, callWith_K → Wbo, fnOf → Wbp, kia_one → Wbs, mg_of → Wco, codeIn → Wda, nsIn → Wdj, exmOne → Wdm, methodObj → Wdn, cellsFrom_some → Wdv, WalkO → Wet, kitx_list → Wez, lookIn → Wfk
open PySem.Heap renaming get?_push_of_some → Xb, lt_size → Xe, get?_push_size → Xf, SameBut → Xz, get?_update_other → Waw, get?_update_self → Wbg, size_push → Wbv, get?_none_of_le → Wdc, ExtBut → Wdh, IsSliceOf → Wfl
open Nat renaming le_refl → Xc, lt_of_lt_of_le → Xl, ne_of_lt → Xo, le_trans → Xp, zero_le → Wak, lt_irrefl → Wbd, succ_le_succ → Wbn, ne_of_gt → Wbt, le_succ → Wci, lt_succ_of_lt → Wcz, le_of_lt → Wdy, mul_comm → Web, pow_le_pow_right → Wem, succ_ne_self → Wfh
open List renaming getElem?_eq_some_iff → Xd, replicate → Xg, size_toArray → Xi, mem_map → Xj, length_map → Xk, mem_cons → Xn, map_cons → Xr, mem_append → Xs, append_nil → Xu, mem_cons_of_mem → Xw, getElem?_append_left → Xx, mem_filter → Wac, map_append → Wad, mem_append_right → Wae, getElem?_map → Waf, getElem_mem → Wag, length_filter_le → Waj, mem_append_left → Wal, getElem?_set_ne → Wam, exists_cons_of_length_eq_add_one → Wan, all_eq_true → Wao, length_append → Wap, getElem?_append_right → Waq, mem_range → War, getElem?_eq_getElem → Was, lookup_cons → Wat, any_eq_true → Wau, mem_cons_self → Wav, replicate_succ → Wax, cons → Way, map_map → Wbc, map_drop → Wbe, nodup_cons → Wbf, filter_map → Wbh, mem_of_getElem? → Wbi, nodup_append → Wbj, length_take → Wbm, drop_eq_getElem_cons → Wbq, flatten_cons → Wbr, filter_sublist → Wbu, getElem?_set_self → Wbw, mem_filterMap → Wbx, filter_append → Wby, any_eq_false → Wbz, getElem?_set → Wca, length_cons → Wcd, length_drop → Wce, cons_append → Wcf, lookup → Wch, getElem?_replicate → Wcm, nil_append → Wcn, map_take → Wcp, drop_eq_nil_of_le → Wcr, find?_cons_of_pos → Wct, find?_cons_of_neg → Wcu, filter_eq_nil_iff → Wcv, range → Wcw, reverse_cons → Wcx, append_assoc → Wcy, mem_of_mem_drop → Wdd, any_cons → Wde, filterMap_cons → Wdg, all_append → Wdi, pairwise_cons → Wdk, getLast?_cons → Wdl, foldl → Wdo, pairwise_map → Wdp, length → Wdq, all_cons → Wdr, getElem?_cons_succ → Wds, filter_cons_of_pos → Wdt, filter_cons_of_neg → Wdu, take_of_length_le → Wdw, drop_of_length_le → Wdx, of_mem_zip → Wdz, length_singleton → Wea, mem_iff_getElem? → Wec, length_nil → Wed, lookup_cons_self → Wef, take_append_drop → Wei, any_map → Wej, mem_iff_getElem → Wek, getLast?_concat → Wel, mem_of_mem_take → Wen, length_reverse → Wep, map_congr_left → Weq, filterMap_map → Wes, zip_cons_cons → Wev, contains_cons → Wew, map_replicate → Wex, mem_singleton → Wey, filter_congr → Wfc, map_id' → Wfd, getElem_inj → Wff, map_reverse → Wfi, mem_reverse → Wfj
open Bool renaming and_eq_true → Xv, false_ne_true → Wai, false_eq_true → Wbb, false_and → Wcb, and_false → Wdb, true_and → Wdf, eq_iff_iff → Weg, not_not → Weh, and_eq_true_iff → Weo, not_eq_true' → Wfb
open Int renaming toNat_natCast → Xy, emod_lt_of_pos → Wab, emod_nonneg → Wah, toNat_of_nonneg → Wbk, zero_add → Wfe
open Option renaming some → Waa, isSome_iff_exists → Wcj, bind_eq_some_iff → Wck, map_some → Wcl, map_eq_some_iff → Wcq, getD_none → Wfg, isSome → Wfm
open Prod renaming mk → Wba
open Array renaming getElem?_eq_some_iff → Wbl, getElem?_eq_getElem → Wcc, length_toList → Wcg, getElem?_eq_none → Wcs, getElem?_toList → Wee, append_assoc → Wer, empty_append → Weu, size_append → Wfa
theorem Zo {α β : Type} {x : Option α} {f : α → Option β} {b : β} (h : x.bind f = some b) : ∃ a, x = some a ∧ f a = some b := Wck.1 h
theorem Zm {α β : Type} {x : Option α} {f : α → β} {b : β} (h : x.map f = some b) : ∃ a, x = some a ∧ f a = b := Wcq.1 h
theorem Zb {α β : Type} (a : α) (f : α → Option β) : (some a).bind f = f a := rfl
namespace PySem.W
open PySem
/-! the top run on a tree -/
def treeOf : List Obj → Nat → BT → Option BT
  | [], _, t => some t
  | o :: r, i, t => match ((t.ins i o).get i).isSome with
    | true => treeOf r (i + 1) (t.ins i o)
    | false => none
theorem treeOf_abs {life} : ∀ (l : List Obj) (i : Nat) (t T : BT), treeOf l i t = some T → absHeap T (i + l.length) life = ⟨(absHeap t i life).objs ++ l.toArray, life⟩
  | [], i, t, T, h => by cases h; simp [absHeap]
  | o :: r, i, t, T, h => by
    unfold treeOf at h
    cases e : ((t.ins i o).get i).isSome with
    | false => rw [e] at h; cases h
    | true =>
      rw [e] at h
      have a := treeOf_abs (life := life) r (i + 1) (t.ins i o) T h
      rw [absHeap_ins e] at a
      rw [Wcd, show i + (r.length + 1) = i + 1 + r.length by omega, a]
      simp [Heap.push]
def topRunT (tb : String → Option Builtin) (p : Vf) (w : Vk) (n₀ : Nat) (ann : Option Vb) : Nat → SharedT → Thread → Option SharedT
  | 0, _, _ => none
  | n + 1, s, t => match through t with
    | true => some s
    | false => match stepOk n₀ ann t with
      | false => none
      | true => match stepT (denote tb) p w s t with
        | some (s', t') => topRunT tb p w n₀ ann n s' t'
        | none => none
theorem topRun_of {tb : String → Option Builtin} {p : Vf} {w : Vk} {n₀ : Nat} {ann : Option Vb} : ∀ {n : Nat} {s s' : SharedT} {t : Thread}, topRunT tb p w n₀ ann n s t = some s' → topRun tb p w n₀ ann n s.abs t = some s'.abs
  | 0, _, _, _, h => by cases h
  | n + 1, s, s', t, h => by
    unfold topRunT at h
    unfold topRun
    cases he : through t with
    | true => rw [he] at h; cases h; rfl
    | false =>
      rw [he] at h
      cases hk : stepOk n₀ ann t with
      | false => rw [hk] at h; cases h
      | true =>
        rw [hk] at h
        cases hs : stepT (denote tb) p w s t with
        | none => rw [hs] at h; cases h
        | some r => obtain ⟨s₂, t₂⟩ := r; rw [hs] at h; rw [stepT_spec hs]; exact topRun_of h
def topT (tb : String → Option Builtin) (p : Vf) (w : Vk) (N : Nat) (s₀ : Vd) : Option Vd :=
  match s₀.heap.isNs mainGlobals && s₀.gens.size == 0 with
  | true => (treeOf s₀.heap.objs.toList 0 .nil).bind fun T => (topRunT tb p w s₀.heap.objs.size (s₀.heap.nsMap mainGlobals "__annotations__") N ⟨T, s₀.heap.objs.size, s₀.heap.life, s₀.gens, s₀.drawn, s₀.toks, s₀.os⟩ (topStub p)).bind fun s₁ =>
    match staticsOk (importedModules p.main.body) s₀.heap s₁.abs.heap && namesBound p s₁.abs.heap && gensDone s₁.abs && laidKept s₀.heap s₁.abs.heap with
    | true => some s₁.abs
    | false => none
  | false => none
theorem topT_of {tb : String → Option Builtin} {p : Vf} {w : Vk} {N : Nat} {s₀ r : Vd} (h : topT tb p w N s₀ = some r) : topFrom tb p w N s₀ = some r := by
  unfold topT at h
  unfold topFrom
  cases e : (s₀.heap.isNs mainGlobals && s₀.gens.size == 0) with
  | false => rw [e] at h; cases h
  | true =>
    rw [e] at h
    obtain ⟨T, h1, h⟩ := Wck.mp h
    obtain ⟨s₁, h2, h⟩ := Wck.mp h
    have a := treeOf_abs (life := s₀.heap.life) _ _ _ _ h1
    have b := topRun_of h2
    have c : (SharedT.mk T s₀.heap.objs.size s₀.heap.life s₀.gens s₀.drawn s₀.toks s₀.os).abs = s₀ := by
      unfold SharedT.abs
      have z : absHeap T s₀.heap.objs.size s₀.heap.life = s₀.heap := by
        have a' := a
        rw [Nat.zero_add] at a'
        rw [show s₀.heap.objs.size = s₀.heap.objs.toList.length by simp, a']
        obtain ⟨⟨objs, life⟩, g, d, t, o⟩ := s₀
        simp [absHeap, BT.list]
      show Shared.mk (absHeap T s₀.heap.objs.size s₀.heap.life) s₀.gens s₀.drawn s₀.toks s₀.os = s₀
      rw [z]
    rw [c] at b
    rw [b]
    exact h
end PySem.W
section
open PySem PySem.W PyProof.Rows
nonrec def PySem.Challenge.vwOf (p : Vf) : Vf := { p with main := { p.main with body := [1, 2, 4, 5, 6, 7, 8, 9, 10, 11, 12, 14, 15, 16, 17, 18, 19, 20, 21, 22, 23, 24, 26, 27, 28, 29, 31, 32, 33, 34, 35, 36, 37, 38, 39, 40, 41, 42, 43, 44, 45, 46, 47, 48, 49, 50, 51, 52, 53, 54, 55, 56].filterMap fun i => p.main.body[i]? } }
local macro_rules | `(tactic| o_head $_) => `(tactic| exact Ue (by assumption))
set_option maxRecDepth 100000 in
set_option maxHeartbeats 0 in
theorem PySem.Challenge.mk0 : False -> PySem.Challenge.rw_allsome_k29_terms_made_by_steps.Holds := by
 intro f; w_on; o_law; k_head
nonrec def PySem.Challenge.hk0 : Hook := kHook PySem.Challenge.mk0.heap_39 [2, 3, 15, 17, 18, 20, 21, 22, 24, 25, 27, 28, 29, 36, 37, 38, 39, 42, 49, 51, 52, 54, 55, 56, 57, 58, 61, 68, 70, 71, 73, 74, 75, 76, 77, 80, 87, 88, 89, 92, 99, 100, 101, 104, 111, 112, 113, 116, 123, 124, 125, 128, 135, 136, 137, 140, 147, 148, 149, 152, 154, 155, 157, 158, 159, 161, 162, 164, 165, 166, 168, 169, 171, 172, 173, 176, 177, 178, 180, 181, 183, 184, 185, 187, 188, 190, 191, 192, 194, 195, 197, 198, 199, 201, 202, 204, 205, 206, 208, 209, 211, 212, 213, 215, 216, 218, 219, 220, 222, 223, 225, 226, 227, 230, 231, 232, 234, 235, 237, 238, 239, 241, 242, 244, 245, 246, 248, 249, 251, 252, 253, 255, 256, 258, 259, 260, 262, 263, 265, 266, 267, 269, 270, 272, 273, 274, 276, 277, 279, 280, 281, 283, 284, 286, 287, 288, 291, 292, 293, 295, 296, 298, 299, 300, 302, 303, 305, 306, 307, 310, 311, 312, 314, 315, 317, 318, 319, 322, 323, 324, 326, 327, 329, 330, 331, 334, 335, 336, 339, 340, 341, 343, 344, 346, 347, 348, 351, 352, 353, 356, 357, 358, 361, 362, 363, 365, 366, 368, 369, 370, 373, 374, 375, 377, 378, 380, 381, 382, 384, 385, 387, 388, 389, 392, 393, 394, 396, 397, 399, 400, 401, 403, 404, 406, 407, 408, 411, 412] (fun _ => by kernel_rfl)
nonrec def PySem.Challenge.xt0 (s : Vd) : Bool := xlAt (PySem.Challenge.vwOf PySem.Challenge.pw_allsome_k29_terms_made_by_steps) [] s && recOk (RowW.records (OpenRow.toRowW (OpenLaw.row PySem.Challenge.rw_allsome_k29_terms_made_by_steps))) s
set_option maxRecDepth 100000 in
theorem PySem.Challenge.left123456789 (w : Vk) (os : OsState) : (topT treeTable (OpenLaw.row PySem.Challenge.rw_allsome_k29_terms_made_by_steps).prog w 6724 ⟨boot_heap w.params, Array.mk [], boot_drawn, boot_toks, os⟩).map (fun s => openSeen (PySem.Challenge.vwOf PySem.Challenge.pw_allsome_k29_terms_made_by_steps) [] (importedModules (OpenLaw.row PySem.Challenge.rw_allsome_k29_terms_made_by_steps).prog.main.body) PySem.Challenge.xt0 true s) = some (openGood (PySem.Challenge.vwOf PySem.Challenge.pw_allsome_k29_terms_made_by_steps) []) := by
 unfold PySem.Challenge.xt0
 try rewrite [PySem.W.Fast.te4187177175401517315]
 try rewrite [PySem.W.Fast.te5923862056798008813]
 try rewrite [PySem.W.Fast.te2368527892694137696]
 try rewrite [PySem.W.Fast.te4005109798489712690]
 try rewrite [PySem.W.Fast.te3679362325480117775]
 try rewrite [PySem.W.Fast.te14364793385576792824]
 kernel_rfl
set_option maxRecDepth 100000 in
theorem PySem.Challenge.leftc (w : Vk) (os : OsState) : (topT treeTable (OpenLaw.row PySem.Challenge.rw_allsome_k29_terms_made_by_steps).prog w 6724 ⟨boot_heap w.params, Array.mk [], boot_drawn, boot_toks, os⟩).map (fun s => PySem.Challenge.hk0.obs s) = some (PySem.Challenge.hk0.val w) := by
 try rewrite [PySem.W.Fast.te4187177175401517315]
 try rewrite [PySem.W.Fast.te5923862056798008813]
 try rewrite [PySem.W.Fast.te2368527892694137696]
 try rewrite [PySem.W.Fast.te4005109798489712690]
 try rewrite [PySem.W.Fast.te3679362325480117775]
 try rewrite [PySem.W.Fast.te14364793385576792824]
 kernel_rfl
theorem PySem.Challenge.left0 : LeftO (OpenLaw.row PySem.Challenge.rw_allsome_k29_terms_made_by_steps).prog (PySem.Challenge.vwOf PySem.Challenge.pw_allsome_k29_terms_made_by_steps) [] PySem.Challenge.xt0 PySem.Challenge.hk0.obs PySem.Challenge.hk0.val 6724 := fun w => by
 obtain ⟨⟨h, g, d, t, os⟩, hs, hv⟩ := Wcq.mp (boot_open (p := (OpenLaw.row PySem.Challenge.rw_allsome_k29_terms_made_by_steps).prog) (N := 6724) (by kernel_rfl) (by kernel_rfl) (fun s => by kernel_rfl) w)
 obtain ⟨e1, hv⟩ := Wba.inj (show (h, g, d, t) = _ from hv)
 obtain ⟨e2, hv⟩ := Wba.inj hv
 obtain ⟨e3, e4⟩ := Wba.inj hv
 subst e1; subst e2; subst e3; subst e4
 obtain ⟨r, h1, hc⟩ := Wcq.mp (PySem.Challenge.leftc w os)
 have h123456789 := PySem.Challenge.left123456789 w os
 rw [h1, Wcl] at h123456789
 replace h123456789 := Waa.inj h123456789
 unfold openEnds
 rw [hs, Option.bind_some, topT_of h1]
 exact congrArg some (Prod.ext h123456789 hc)
end
namespace L2
open PySem PySem.Spec PyProof.Rows
nonrec abbrev Key := Sum Int Str
nonrec def Yav : Key -> Vb -> Bool
 | .inl k, v => Value.isInt k v
 | .inr x, v => Value.isStrOf x v
nonrec def keyH (w : Vk) : Key -> Int
 | .inl k => hashInt k
 | .inr x => hashStr w x
theorem Zbc : ∀ {k : Key} {v : Vb}, Yav k v = true -> (∃ i t, k = Sum.inl i ∧ v = Value.int i t) ∨ (∃ x t, k = Sum.inr x ∧ v = Value.str x t)
 | .inl i, v, h => by
  obtain ⟨t, e⟩ := Value.isInt_shape (k := i) (v := v) h
  exact .inl ⟨i, t, rfl, e⟩
 | .inr x, v, h => by
  obtain ⟨t, e⟩ := Value.isStrOf_shape (x := x) (v := v) h
  exact .inr ⟨x, t, rfl, e⟩
theorem Yao (a b : Int) : decide ((Sum.inl a : Key) = Sum.inl b) = (a == b) := by
 by_cases e : a = b
 ·subst e; simp
 ·have h : ¬ (Sum.inl a : Key) = Sum.inl b := fun q => e (Sum.inl.inj q)
  rw [decide_eq_false h]
  exact (beq_eq_false_iff_ne.mpr e).symm
theorem Ybc (a b : Str) : decide ((Sum.inr a : Key) = Sum.inr b) = decide (a = b) := by
 by_cases e : a = b
 ·subst e; simp
 ·have h : ¬ (Sum.inr a : Key) = Sum.inr b := fun q => e (Sum.inr.inj q)
  rw [decide_eq_false h, decide_eq_false e]
theorem Ya6 (a : Int) (b : Str) : decide ((Sum.inl a : Key) = Sum.inr b) = false := decide_eq_false (fun q => nomatch q)
theorem Yaa (a : Str) (b : Int) : decide ((Sum.inr a : Key) = Sum.inl b) = false := decide_eq_false (fun q => nomatch q)
nonrec def Zni (prog : Vf) (w : Vk) : PySem.KeyKind prog w Key where
 is := Yav
 hash := keyH w
 inj := fun v a b ha hb => by
  rcases Zbc ha with ⟨i, t, rfl, rfl⟩ | ⟨x, t, rfl, rfl⟩
  ·rcases Zbc hb with ⟨j, u, rfl, e⟩ | ⟨y, u, rfl, e⟩
   ·injection e with e1 _; rw [e1]
   ·exact nomatch e
  ·rcases Zbc hb with ⟨j, u, rfl, e⟩ | ⟨y, u, rfl, e⟩
   ·exact nomatch e
   ·injection e with e1 _; rw [e1]
 byValue := fun k v h => by
  rcases Zbc h with ⟨i, t, rfl, rfl⟩ | ⟨x, t, rfl, rfl⟩ <;> rfl
 pyHash := fun hv h => by
  rcases Zbc hv with ⟨i, t, rfl, rfl⟩ | ⟨x, t, rfl, rfl⟩
  ·exact wpAny_pyHash_int h
  ·exact wpAny_pyHash_str h
 eqBool := fun hu hv h => by
  rcases Zbc hu with ⟨i, t, rfl, rfl⟩ | ⟨x, t, rfl, rfl⟩
  ·rcases Zbc hv with ⟨j, u, rfl, rfl⟩ | ⟨y, u, rfl, rfl⟩
   ·rw [Yao] at h; exact wpAny_eqBool_int h
   ·rw [Ya6] at h; exact SeqAt.EqAt.int_str i t y u _ _ _ _ h
  ·rcases Zbc hv with ⟨j, u, rfl, rfl⟩ | ⟨y, u, rfl, rfl⟩
   ·rw [Yaa] at h; exact SeqAt.EqAt.str_int x t j u _ _ _ _ h
   ·rw [Ybc] at h; exact wpAny_eqBool_str h
 «strs» := fun k x t v h => by
  rcases Zbc h with ⟨i, u, rfl, e⟩ | ⟨y, u, rfl, e⟩
  ·exact nomatch e
  ·injection e with e1 _
   subst e1
   cases v <;> rfl
inductive V where
 | non | bl (b : Bool) | int (i : Int) | str (x : Str) | byt (b : Array UInt8) | flt (b : UInt64) | ref (a : Ve) | ty (n : String)
nonrec def Zca : V -> Vb -> Prop
 | .non, u => u = Ur
 | .bl b, u => u = Tcd b
 | .int i, u => ∃ t, u = Value.int i t
 | .str x, u => ∃ t, u = Value.str x t
 | .byt b, u => ∃ t, u = Value.bytes b t
 | .flt b, u => ∃ t, u = Value.float b t
 | .ref a, u => u = Ud a
 | .ty n, u => u = Tca n
nonrec abbrev Zbp : List V -> List Vb -> Prop := Vh Zca
theorem Zbp.length {xs : List V} {us : List Vb} (r : Zbp xs us) : xs.length = us.length := Paired.length r
theorem Zbp.get : ∀ {xs : List V} {us : List Vb} {i : Nat} {x : V}, Zbp xs us -> xs[i]? = some x -> ∃ u, us[i]? = some u ∧ Zca x u
 | _, _, _, _, .nil, e => by simp at e
 | _, _, 0, _, .cons r _, e => by simp at e; subst e; exact ⟨_, rfl, r⟩
 | _, _, i + 1, x, .cons _ t, e => by
  obtain ⟨u, h1, h2⟩ := Zbp.get (i := i) (x := x) t (by simpa using e)
  exact ⟨u, by simpa using h1, h2⟩
theorem Zbp.append : ∀ {xs ys : List V} {us ws : List Vb}, Zbp xs us -> Zbp ys ws -> Zbp (xs ++ ys) (us ++ ws)
 | _, _, _, _, .nil, s => s
 | _, _, _, _, .cons r t, s => .cons r (Zbp.append t s)
theorem Zbp.take : ∀ {xs : List V} {us : List Vb} (n : Nat), Zbp xs us -> Zbp (xs.take n) (us.take n)
 | _, _, 0, _ => .nil
 | _, _, _ + 1, .nil => .nil
 | _, _, n + 1, .cons r t => .cons r (Zbp.take n t)
theorem Zbp.drop : ∀ {xs : List V} {us : List Vb} (n : Nat), Zbp xs us -> Zbp (xs.drop n) (us.drop n)
 | _, _, 0, r => r
 | _, _, _ + 1, .nil => .nil
 | _, _, n + 1, .cons _ t => Zbp.drop n t
nonrec def RelO : Option V -> Option Vb -> Prop
 | some v, some u => Zca v u
 | none, none => True
 | _, _ => False
nonrec def KV {κ : Type} : List (κ × V) -> List (κ × Vb) -> Prop := Vh fun (p : κ × V) (q : κ × Vb) => p.1 = q.1 ∧ Zca p.2 q.2
nonrec def kV : Key -> V
 | .inl i => .int i
 | .inr x => .str x
inductive HO where
 | lst (xs : List V)
 | tup (xs : List V)
 | dK (kvs : List (Key × V)) | dT (kvs : List (List Key × V))
 | set (S : Int -> Bool) (n : Nat)
 | ins (C dx : Ve) (fs : List (Str × V))
 | own (x : Ve)
 | xd (fs : List (Str × V))
 | met (f x : Ve)
 | rng (lo hi : Int)
 | frz (o : Obj) (u : HO)
 | tbl (ps : Array Vb)
 | ext (φ : Vu -> Prop)
nonrec abbrev Hp := Ve -> Option HO
nonrec def upd (H : Hp) (a : Ve) (o : HO) : Hp := fun b => if b = a then some o else H b
theorem upd_same {H : Hp} {a : Ve} {o : HO} : upd H a o a = some o := by unfold upd; rw [if_pos rfl]
theorem Zai {H : Hp} {a b : Ve} {o : HO} (h : b ≠ a) : upd H a o b = H b := by unfold upd; rw [if_neg h]
theorem Zmc {H : Hp} {a b : Ve} {o u : HO} (h : H a = some o) (h' : H b = some u) (d : o ≠ u) : a ≠ b := by
 intro e; subst e; rw [h] at h'; exact d (Waa.inj h')
theorem Zak {H : Hp} {a b : Ve} {o : HO} (h : H a = some o) (h' : H b = none) : a ≠ b := by
 intro e; subst e; rw [h] at h'; cases h'
def Zjd (h : Vu) (a : Ve) (items : Array Vb) : Prop := ∃ o, h.get? a = some o ∧ o.cls = .type "tuple" ∧ (∃ n, o.data = .seq items n) ∧ o.dict = none
theorem Zjd.new (h : Vu) (items : Array Vb) : Zjd (h.push { cls := .type "tuple", data := .seq items }) h.objs.size items := ⟨_, Xf _ rfl, rfl, ⟨_, rfl⟩, rfl⟩
theorem Zjd.tup {h : Vu} {a : Ve} {items : Array Vb} (x : Zjd h a items) : Uce h a items := let ⟨o, e, c, d, _⟩ := x; ⟨o, e, c, d⟩
section
variable (P : Vf) (w : Vk)
nonrec def Zdq (H : Hp) (h : Vu) (a : Ve) : HO -> Prop
 | .lst xs => xs.length ≤ sizeLine ∧ ∃ (its : List Vb) (n : Nat), Zbp xs its ∧ h.get? a = some { cls := .type "list", data := .seq its.toArray n }
 | .tup xs => xs.length ≤ sizeLine ∧ ∃ its : List Vb, Zbp xs its ∧ Zjd h a its.toArray
 | .dK kvs => kvs.length ≤ sizeLine ∧ (a == sysModules) = false ∧ ∃ vs, KV kvs vs ∧ h.DictOf (Zni P w) a vs
 | .dT kvs => kvs.length ≤ sizeLine ∧ (a == sysModules) = false ∧ ∃ xs : List (List Key × Ve × Vb),
   Vh (fun (p : List Key × V) (q : List Key × Ve × Vb) => p.1 = q.1 ∧ H q.2.1 = some (.tup (p.1.map kV)) ∧ Zca p.2 q.2.2) kvs xs ∧
   ∃ o es ep, h.get? a = some o ∧ o.ExactDict ∧ o.data = .dict es ep ∧ es.toList = xs.map (entryOfKey (tupleKind (Zni P w))) ∧ (xs.map (·.1)).Nodup
 | .set S n => h.SetOf (intKind P w) a S n
 | .ins C dx fs => H dx = some (.own a) ∧ fs.length ≤ 1000 ∧ dx ≠ a ∧ h.get? a = some (PySem.W.instObj C dx) ∧
   ∃ mA, h.Ns1 dx mA ∧ (∀ f, RelO (fs.lookup f) (mA f)) ∧ PySem.Within mA (fs.map (·.1))
 | .own _ => ∃ o, h.get? a = some o
 | .xd fs => ∃ mA, h.Ns1 a mA ∧ ∀ f, RelO (fs.lookup f) (mA f)
 | .rng lo hi => ∃ t u v, h.get? a = some { cls := .type "range", data := .fields #[.int lo t, .int hi u, .int 1 v] }
 | .frz o u => h.get? a = some o ∧ Zdq H h a u
 | .tbl ps => h.get? a = some { cls := .none, data := .fields ps }
 | .met f x => h.get? a = some (Wdn (.ref f) (.ref x))
 | .ext φ => φ h ∧ (∃ o, h.get? a = some o) ∧ ∀ h1 h2 : Vu, φ h1 -> (∀ o, h1.get? a = some o -> h2.get? a = some o) -> φ h2
def HOk (H : Hp) (h : Vu) : Prop := ∀ a o, H a = some o -> Zdq P w H h a o
end
section
variable {P : Vf} {w : Vk} {H H' : Hp} {h h' : Vu} {a : Ve} {o : HO}
theorem Zdq.lt (x : Zdq P w H h a o) : a < h.objs.size := by
 cases o with
 | lst xs => obtain ⟨_, _, _, _, e⟩ := x; exact Xe e
 | tup xs => obtain ⟨_, _, _, p⟩ := x; exact p.tup.lt
 | dK kvs => obtain ⟨_, _, _, _, o, _, _, e, _⟩ := x; exact Xe e
 | dT kvs => obtain ⟨_, _, _, _, o, _, _, e, _⟩ := x; exact Xe e
 | set S n => obtain ⟨o, _, _, _, e, _⟩ := x; exact Xe e
 | ins C dx fs => obtain ⟨_, _, _, e, _⟩ := x; exact Xe e
 | own y => obtain ⟨_, e⟩ := x; exact Xe e
 | xd fs => obtain ⟨_, ⟨_, _, _, e, _⟩, _⟩ := x; exact Xe e
 | rng lo hi => obtain ⟨_, _, _, e⟩ := x; exact Xe e
 | frz ob u => obtain ⟨e, _⟩ := x; exact Xe e
 | tbl ps => exact Xe (show h.get? a = some _ from x)
 | met f y => exact Xe (show h.get? a = some _ from x)
 | ext φ => obtain ⟨_, ⟨_, e⟩, _⟩ := x; exact Xe e
theorem Paired.mapP {α β : Type} {F G : α -> β -> Prop} : ∀ {l₁ : List α} {l₂ : List β}, Vh F l₁ l₂ -> (∀ a b, F a b -> G a b) -> Vh G l₁ l₂
 | _, _, .nil, _ => .nil
 | _, _, .cons r t, f => .cons (f _ _ r) (Paired.mapP t f)
theorem Zdq.stay (x : Zdq P w H h a o) (k : ∀ b u, (b = a ∨ H b = some (.own a)) -> h.get? b = some u -> h'.get? b = some u)
  (ho : ∀ b, H b = some (.own a) -> H' b = some (.own a)) (ht : ∀ b xs, H b = some (.tup xs) -> H' b = some (.tup xs)) : Zdq P w H' h' a o := by
 induction o with
 | lst xs => obtain ⟨z, its, n, r, e⟩ := x; exact ⟨z, its, n, r, k _ _ (.inl rfl) e⟩
 | tup xs => obtain ⟨z, its, r, ob, e, c⟩ := x; exact ⟨z, its, r, ob, k _ _ (.inl rfl) e, c⟩
 | dK kvs => obtain ⟨z, y, vs, r, ob, es, ep, e, c⟩ := x; exact ⟨z, y, vs, r, ob, es, ep, k _ _ (.inl rfl) e, c⟩
 | dT kvs =>
  obtain ⟨z, y, xs, r, ob, es, ep, e, c⟩ := x
  exact ⟨z, y, xs, Paired.mapP r fun p q z => ⟨z.1, ht _ _ z.2.1, z.2.2⟩, ob, es, ep, k _ _ (.inl rfl) e, c⟩
 | set S n => obtain ⟨ob, es, ep, t, e, c⟩ := x; exact ⟨ob, es, ep, t, k _ _ (.inl rfl) e, c⟩
 | ins C dx fs =>
  obtain ⟨d, z, ne, e, mA, ⟨od, es, ep, e2, c⟩, r⟩ := x
  exact ⟨ho _ d, z, ne, k _ _ (.inl rfl) e, mA, ⟨od, es, ep, k _ _ (.inr d) e2, c⟩, r⟩
 | own y => obtain ⟨ob, e⟩ := x; exact ⟨ob, k _ _ (.inl rfl) e⟩
 | xd fs => obtain ⟨mA, ⟨od, es, ep, e, c⟩, r⟩ := x; exact ⟨mA, ⟨od, es, ep, k _ _ (.inl rfl) e, c⟩, r⟩
 | rng lo hi => obtain ⟨t, u, v, e⟩ := x; exact ⟨t, u, v, k _ _ (.inl rfl) e⟩
 | frz ob u ih => obtain ⟨e, q⟩ := x; exact ⟨k _ _ (.inl rfl) e, ih q⟩
 | tbl ps =>
  have e : h.get? a = some { cls := .none, data := .fields ps } := x
  show h'.get? a = some { cls := .none, data := .fields ps }
  exact k a _ (.inl rfl) e
 | met f y =>
  have e : h.get? a = some (Wdn (.ref f) (.ref y)) := x
  show h'.get? a = some (Wdn (.ref f) (.ref y))
  exact k a _ (.inl rfl) e
 | ext φ => obtain ⟨p, ⟨o, e⟩, st⟩ := x; exact ⟨st _ _ p fun o q => k _ _ (.inl rfl) q, ⟨o, k _ _ (.inl rfl) e⟩, st⟩
theorem HOk.lt (x : HOk P w H h) (e : H a = some o) : a < h.objs.size := (x a o e).lt
theorem HOk.fresh (x : HOk P w H h) (e : h.objs.size ≤ a) : H a = none := by
 cases q : H a with
 | none => rfl
 | some u => exact absurd (Xl (x.lt q) e) (Wbd _)
theorem HOk.kept (x : HOk P w H h) (k : ∀ b u, h.get? b = some u -> h'.get? b = some u) : HOk P w H h' := fun a o e =>
 (x a o e).stay (fun b u _ q => k b u q) (fun _ q => q) fun _ _ q => q
theorem HOk.laid (x : HOk P w H h) (k : ∀ b u, h.get? b = some u -> h'.get? b = some u) (hp : h.objs.size ≤ a) (new : Zdq P w (upd H a o) h' a o) : HOk P w (upd H a o) h' := fun b u e => by
 have hn := x.fresh hp
 by_cases hb : b = a
 ·subst hb; rw [upd_same] at e; cases e; exact new
 ·rw [Zai hb] at e
  exact (x b u e).stay (fun c v _ q => k c v q) (fun c q => by rw [Zai (Zak q hn)]; exact q) fun c xs q => by rw [Zai (Zak q hn)]; exact q
end
def Rd (H : Hp) (a : Ve) (u : HO) : Prop := H a = some u ∨ ∃ o, H a = some (.frz o u)
theorem Rd.ok {P : Vf} {w : Vk} {H : Hp} {h : Vu} {a : Ve} {u : HO} (r : Rd H a u) (x : HOk P w H h) : Zdq P w H h a u := by
 rcases r with r | ⟨o, r⟩
 ·exact x a u r
 ·obtain ⟨_, q⟩ := x a _ r
  exact q
nonrec def Mut : Option HO -> Prop
 | some (.lst _) => True
 | some (.dK _) => True
 | some (.dT _) => True
 | some (.set _ _) => True
 | some (.ins _ _ _) => True
 | some (.ext _) => True
 | _ => False
section
variable {P : Vf} {w : Vk} {H : Hp} {h h' : Vu} {x e : Ve} {o' : HO}
theorem HOk.write (ok : HOk P w H h) (mu : Mut (H x)) (he : e = x ∨ H e = some (.own x)) (k : ∀ b u, b ≠ e -> h.get? b = some u -> h'.get? b = some u) (heo : ∃ u, h'.get? e = some u)
  (new : Zdq P w (upd H x o') h' x o') : HOk P w (upd H x o') h' := fun b u q => by
 have nown : ∀ c y, H c = some (.own y) -> c ≠ x := fun c y r z => by subst z; rw [r] at mu; exact mu
 have ntup : ∀ c xs, H c = some (.tup xs) -> c ≠ x := fun c xs r z => by subst z; rw [r] at mu; exact mu
 by_cases hb : b = x
 ·subst hb; rw [upd_same] at q; cases q; exact new
 ·rw [Zai hb] at q
  by_cases hbe : b = e
  ·have q' : H b = some (.own x) := by
    rcases he with z | z
    ·exact absurd (hbe.trans z) hb
    ·rw [hbe]; exact z
   rw [q] at q'; cases q'
   obtain ⟨v, hv⟩ := heo
   exact ⟨v, by rw [hbe]; exact hv⟩
  ·refine (ok b u q).stay (fun c v hc r => k c v ?_ r) (fun c r => by rw [Zai (nown c b r)]; exact r) fun c xs r => by rw [Zai (ntup c xs r)]; exact r
   rcases hc with rfl | hc
   ·exact hbe
   ·rintro rfl
    rcases he with z | z
    ·exact nown c b hc z
    ·rw [hc] at z; cases z; exact hb rfl
end
structure Un (fs ex : List Ve) (H H' : Hp) (h h' : Vu) : Prop where
 keep : ∀ b o, h.get? b = some o -> H b = none -> b ∉ fs -> b ∉ ex -> h'.get? b = some o
 slot : ∀ b o, h.get? b = some o -> H b = none -> b ∈ fs -> b ∉ ex -> ∃ sl, h'.get? b = some { o with slots := sl }
 free : ∀ b o, h.get? b = some o -> H b = none -> b ∉ ex -> H' b = none
 there : ∀ b o, h.get? b = some o -> b ∉ ex -> ∃ o', h'.get? b = some o'
 tups : ∀ b xs, H b = some (.tup xs) -> H' b = some (.tup xs)
 frzs : ∀ b o u, H b = some (.frz o u) -> H' b = some (.frz o u)
 tbls : ∀ b ps, H b = some (.tbl ps) -> ∃ more, H' b = some (.tbl (ps ++ more))
section
variable {fs fs' ex ex' : List Ve} {H H1 H2 : Hp} {h h1 h2 h' : Vu} {a x e : Ve} {o : HO}
theorem Un.any (u : Un fs ex H H1 h h1) {b : Ve} {ob : Obj} (q : h.get? b = some ob) (n : H b = none) (hx : b ∉ ex) : ∃ sl, h1.get? b = some { ob with slots := sl } := by
 by_cases hb : b ∈ fs
 ·exact u.slot b ob q n hb hx
 ·exact ⟨ob.slots, u.keep b ob q n hb hx⟩
theorem Un.trans (a : Un fs ex H H1 h h1) (b : Un fs ex H1 H2 h1 h2) : Un fs ex H H2 h h2 where
 keep := fun c ob q n hc hx => b.keep c ob (a.keep c ob q n hc hx) (a.free c ob q n hx) hc hx
 slot := fun c ob q n hc hx => by
  obtain ⟨sl, e1⟩ := a.slot c ob q n hc hx
  obtain ⟨sl', e2⟩ := b.slot c _ e1 (a.free c ob q n hx) hc hx
  exact ⟨sl', e2⟩
 free := fun c ob q n hx => by
  obtain ⟨o', e1⟩ := a.there c ob q hx
  exact b.free c o' e1 (a.free c ob q n hx) hx
 there := fun c ob q hx => by
  obtain ⟨o', e1⟩ := a.there c ob q hx
  exact b.there c o' e1 hx
 tups := fun c xs q => b.tups c xs (a.tups c xs q)
 frzs := fun c ob xs q => b.frzs c ob xs (a.frzs c ob xs q)
 tbls := fun c ps q => by
  obtain ⟨m1, e1⟩ := a.tbls c ps q
  obtain ⟨m2, e2⟩ := b.tbls c _ e1
  exact ⟨m1 ++ m2, by rw [e2, Wer]⟩
theorem Un.kept (k : ∀ b u, h.get? b = some u -> h'.get? b = some u) : Un fs ex H H h h' :=
 ⟨fun b ob q _ _ _ => k b ob q, fun b ob q _ _ _ => ⟨ob.slots, k b ob q⟩, fun _ _ _ n _ => n, fun b ob q _ => ⟨ob, k b ob q⟩, fun _ _ q => q, fun _ _ _ q => q, fun _ ps q => ⟨#[], by rw [q]; simp⟩⟩
theorem Un.refl : Un fs ex H H h h := Un.kept fun _ _ q => q
theorem Un.laid (k : ∀ b u, h.get? b = some u -> h'.get? b = some u) (hp : h.objs.size ≤ a) (hn : H a = none) : Un fs ex H (upd H a o) h h' where
 keep := fun b u q _ _ _ => k b u q
 slot := fun b u q _ _ _ => ⟨u.slots, k b u q⟩
 free := fun b u q n _ => by rw [Zai (Xo (Xl (Xe q) hp))]; exact n
 there := fun b u q _ => ⟨u, k b u q⟩
 tups := fun b xs q => by rw [Zai (Zak q hn)]; exact q
 frzs := fun b u xs q => by rw [Zai (Zak q hn)]; exact q
 tbls := fun b ps q => ⟨#[], by rw [Zai (Zak q hn), q]; simp⟩
theorem Un.write (mu : Mut (H x)) (he : e = x ∨ H e = some (.own x)) (k : ∀ b u, b ≠ e -> h.get? b = some u -> h'.get? b = some u) (heo : ∃ u, h'.get? e = some u) : Un fs ex H (upd H x o) h h' := by
 have hx : ∀ b, H b = none -> b ≠ x := fun b n z => by subst z; rw [n] at mu; exact mu
 have hb : ∀ b, H b = none -> b ≠ e := fun b n z => by
  subst z
  rcases he with r | r
  ·exact hx b n r
  ·rw [n] at r; cases r
 have hm : ∀ b u, H b = some u -> ¬ Mut (some u) -> b ≠ x := fun b u q nm z => by subst z; rw [q] at mu; exact nm mu
 refine ⟨fun b u q n _ _ => k b u (hb b n) q, fun b u q n _ _ => ⟨u.slots, k b u (hb b n) q⟩, fun b u q n _ => by rw [Zai (hx b n)]; exact n, fun b u q _ => ?_,
  fun b xs q => by rw [Zai (hm b _ q fun z => z)]; exact q, fun b u xs q => by rw [Zai (hm b _ q fun z => z)]; exact q, fun b ps q => ⟨#[], by rw [Zai (hm b _ q fun z => z), q]; simp⟩⟩
 by_cases hbe : b = e
 ·subst hbe; exact heo
 ·exact ⟨u, k b u hbe q⟩
theorem Un.mono (u : Un fs ex H H1 h h1) (hs : ∀ b ∈ fs, b ∈ fs') (hx : ∀ b ∈ ex, b ∈ ex') : Un fs' ex' H H1 h h1 :=
 ⟨fun b ob q n hb he => u.keep b ob q n (fun z => hb (hs b z)) fun z => he (hx b z), fun _ _ q n _ he => u.any q n fun z => he (hx _ z), fun b ob q n he => u.free b ob q n fun z => he (hx b z), fun b ob q he => u.there b ob q fun z => he (hx b z), u.tups, u.frzs, u.tbls⟩
end
nonrec def trk (h : Vu) (H : Hp) : List Ve := (Wcw h.objs.size).filter fun a => (H a).isSome
nonrec def Zt7 (h : Vu) (H : Hp) : Vu := PySem.W.hideAll h (trk h H)
theorem Ztb (h : Vu) (H : Hp) : (Zt7 h H).objs.size = h.objs.size := PySem.W.hideAll_size _ _
theorem Ztr {h : Vu} {H : Hp} {b : Ve} {o : Obj} (e : h.get? b = some o) (n : H b = none) : (Zt7 h H).get? b = some o :=
 PySem.W.hideAll_get _ e fun hm => by
  have q : (H b).isSome = true := (Wac.mp hm).2
  rw [n] at q; simp at q
theorem Zw6 {h : Vu} {H : Hp} {b : Ve} {o : Obj} (e : (Zt7 h H).get? b = some o) : h.get? b = some o ∧ H b = none := by
 have e' : h.get? b = some o := PySem.W.of_hideAll (trk h H) e
 refine ⟨e', ?_⟩
 cases q : H b with
 | none => rfl
 | some x =>
  have hm : b ∈ trk h H := Wac.mpr ⟨War.mpr (Xe e'), by simp [q]⟩
  have z : (Zt7 h H).get? b = none := PySem.W.hideAll_none (trk h H) hm
  rw [z] at e; cases e
structure Mod (K : Xa) (mg : Str -> Option Vb) (base : Vu) : Prop where
 kin : K.In base
 glob : base.Ns mainGlobals mg
 blt : ∃ mb, base.Ns builtinsNs mb ∧ ∀ x : Str, x ≠ "__name__" → mb x = bootBuiltins x
 nolimit : base.NoLimit
structure Cx where
 prog : Vf
 w : Vk
 K : Xa
 mg : Str -> Option Vb
 base : Vu
 A : Vo
 N : List Str
 s₀ : Vd
 H₀ : Hp
 env : Env
 outer : List Env
 stack : List Env
 ex : List Ve
 fn : Str -> Bool
 calm : Bool
 pn : List (Ve × Obj)
 xe : Vb -> Vd -> Prop
nonrec def frs (l : List Env) : List Ve := l.filterMap (·.frame)
nonrec abbrev Cx.fs (X : Cx) : List Ve := frs X.outer
def Vis (sc : Ubi) (x : Str) : Prop := sc.names.lookup x = some .local ∨ sc.names.lookup x = some .cell ∨ sc.names.lookup x = some .free
def Loc (sc : Ubi) (x : Str) : Prop := sc.names.lookup x = some .local ∨ sc.names.lookup x = some .cell
def Look (env : Env) (h : Vu) (m : Str -> Option Vb) (x : Str) (u : Vb) : Prop :=
 (env.kindOf x = some .local ∧ m x = some u) ∨ ((env.kindOf x = some .cell ∨ env.kindOf x = some .free) ∧ ∃ c, env.cells.lookup x = some c ∧ h.IsCell c (some u))
structure Cx.Ok (X : Cx) : Prop where
 mod : Mod X.K X.mg X.base
 kind : X.env.scope.kind = .function
 glob : X.env.globals = mainGlobals
 blt : X.env.builtins = builtinsNs
 above : X.s₀.heap.objs.size ≤ X.env.locals
 inj : ∀ x y c, X.env.cells.lookup x = some c -> X.env.cells.lookup y = some c -> x = y
 has : ∀ x, (X.env.kindOf x = some .cell ∨ X.env.kindOf x = some .free) -> ∃ c, X.env.cells.lookup x = some c
 cab : ∀ x c, X.fn x = true -> X.env.cells.lookup x = some c -> X.s₀.heap.objs.size ≤ c
 hd : X.calm = true -> X.A.handled = none
 frames : X.A.frames = some X.stack
 stk : X.stack = X.outer ∨ (X.stack = X.env :: X.outer ∧ X.env.frame = some X.env.locals)
 exf : ∀ b ∈ X.ex, b ≠ X.env.locals ∧ ∀ x c, X.env.cells.lookup x = some c -> c ≠ b
 bs : ∀ b o, X.base.get? b = some o -> X.s₀.heap.get? b = some o ∧ X.H₀ b = none
 bsz : X.base.objs.size ≤ X.s₀.heap.objs.size
 noex : ∀ b o, X.base.get? b = some o -> b ∉ X.ex
 exfs : ∀ b ∈ X.ex, b ∉ X.fs
 funs : X.s₀.heap.FunFrames X.base X.outer
 frf : ∀ b ∈ X.fs, X.H₀ b = none
structure Inv (X : Cx) (pins : List (Ve × Obj)) (σ : List (Option V)) (H : Hp) (s : Vd) : Prop where
 ok : X.Ok
 os : s.os = X.s₀.os
 bare : Uau s.gens
 base : Un X.fs X.ex X.H₀ H X.s₀.heap s.heap
 loc : ∃ m, s.heap.Ns X.env.locals m ∧ ∀ (i : Nat) (x : Str) (v : V), X.N[i]? = some x -> σ[i]? = some (some v) -> Vis X.env.scope x -> ∃ u, Zca v u ∧ Look X.env s.heap m x u
 cell : ∀ x c, X.env.cells.lookup x = some c -> ∃ v, s.heap.IsCell c v
 free : H X.env.locals = none
 freeC : ∀ x c, X.env.cells.lookup x = some c -> H c = none
 pin : ∀ p ∈ X.pn ++ pins, s.heap.get? p.1 = some p.2 ∧ H p.1 = none ∧ p.1 ≠ X.env.locals ∧ p.1 ∉ X.fs ∧ ∀ v, p.2.data ≠ .cell v
 hok : HOk X.prog X.w H s.heap
 len : σ.length = X.N.length
section
variable {X : Cx} {pins : List (Ve × Obj)} {σ : List (Option V)} {H H' : Hp} {s : Vd} {h' : Vu}
theorem Cx.Ok.nofr (ok : X.Ok) {b : Ve} {o : Obj} (e : X.base.get? b = some o) : b ∉ X.fs := fun hb => by
 have := (ok.funs.mem hb).1
 rw [e] at this; cases this
theorem Inv.bs (I : Inv X pins σ H s) : ∀ b o, X.base.get? b = some o -> s.heap.get? b = some o ∧ H b = none := fun b o e =>
 ⟨I.base.keep b o (I.ok.bs b o e).1 (I.ok.bs b o e).2 (I.ok.nofr e) (I.ok.noex b o e), I.base.free b o (I.ok.bs b o e).1 (I.ok.bs b o e).2 (I.ok.noex b o e)⟩
theorem Inv.bk (I : Inv X pins σ H s) : ∀ b o, X.base.get? b = some o -> s.heap.get? b = some o := fun b o e => (I.bs b o e).1
theorem Inv.mod (I : Inv X pins σ H s) : Mod X.K X.mg X.base := I.ok.mod
theorem Inv.kIn (I : Inv X pins σ H s) : X.K.In s.heap := I.ok.mod.kin.keeps I.bk
theorem Inv.lt (I : Inv X pins σ H s) : X.env.locals < s.heap.objs.size := let ⟨_, hn, _⟩ := I.loc; hn.lt
theorem Inv.sz (I : Inv X pins σ H s) : X.s₀.heap.objs.size ≤ s.heap.objs.size := Xp I.ok.above (Wdy I.lt)
theorem Inv.nofs (I : Inv X pins σ H s) {a : Ve} (h : s.heap.objs.size ≤ a) : a ∉ X.fs := fun hb => by
 obtain ⟨_, o, ho, _⟩ := I.ok.funs.mem hb
 exact absurd (Xl (Xe ho) (Xp I.sz h)) (Wbd _)
theorem Inv.cne (I : Inv X pins σ H s) : ∀ x c, X.env.cells.lookup x = some c -> c ≠ X.env.locals := fun x c e z => by
 obtain ⟨v, o, ho, hd⟩ := I.cell x c e
 obtain ⟨m, ⟨o', es, ep, ho', hd', _⟩, _⟩ := I.loc
 rw [z, ho'] at ho; cases ho; rw [hd'] at hd; cases hd
theorem Inv.funs (I : Inv X pins σ H s) : s.heap.FunFrames X.base X.outer := by
 have all : ∀ (l : List Env), (∀ b ∈ frs l, b ∈ X.fs) -> X.s₀.heap.FunFrames X.base l -> s.heap.FunFrames X.base l := by
  intro l
  induction l with
  | nil => intro _ _; trivial
  | cons env r ih =>
   intro hs hl
   obtain ⟨hk, ⟨L, o, hf, hn, ho, hd⟩, hr⟩ := hl
   have hL : L ∈ X.fs := hs L (by unfold frs; rw [Wdg, hf]; exact Wav)
   obtain ⟨sl, e⟩ := I.base.slot L o ho (I.ok.frf L hL) hL fun z => I.ok.exfs L z hL
   exact ⟨hk, ⟨L, _, hf, hn, e, hd⟩, ih (fun b hb => hs b (by unfold frs; rw [Wdg, hf]; exact Xw _ hb)) hr⟩
 exact all X.outer (fun _ hb => hb) I.ok.funs
theorem Inv.stack (I : Inv X pins σ H s) : s.heap.FunFrames X.base X.stack := by
 rcases I.ok.stk with e | ⟨e, hf⟩
 ·rw [e]; exact I.funs
 ·rw [e]
  obtain ⟨m, hn, _⟩ := I.loc
  refine .cons (by rw [I.ok.kind]; decide) hf hn ?_ I.funs
  exact Wdc (Xp I.ok.bsz I.ok.above)
theorem Inv.stkSub (I : Inv X pins σ H s) : ∀ b ∈ frs X.stack, b ∈ X.env.locals :: X.fs := fun b hb => by
 rcases I.ok.stk with e | ⟨e, hf⟩
 ·rw [e] at hb; exact Xw _ hb
 ·rw [e] at hb
  unfold frs at hb
  rw [Wdg, hf] at hb
  exact hb
theorem Inv.stkFree (I : Inv X pins σ H s) : ∀ b ∈ frs X.stack, H b = none := fun b hb => by
 rcases Xn.mp (I.stkSub b hb) with e | hb
 ·rw [e]; exact I.free
 ·obtain ⟨_, o, ho, _⟩ := I.ok.funs.mem hb
  exact I.base.free b o ho (I.ok.frf b hb) fun z => I.ok.exfs b z hb
theorem Inv.step {g' : Array GenState} {t' : Nat} {d' : Drawn} {ch : List Ve} (I : Inv X pins σ H s)
  (hch : ∀ b ∈ ch, (b ∈ X.ex ∨ X.s₀.heap.objs.size ≤ b) ∧ b ≠ X.env.locals ∧ (∀ x c, X.env.cells.lookup x = some c -> c ≠ b) ∧ ∀ p ∈ X.pn ++ pins, p.1 ≠ b)
  (keep : ∀ b o, b ≠ X.env.locals -> b ∉ X.fs -> b ∉ ch -> s.heap.get? b = some o -> H b = none -> h'.get? b = some o)
  (slot : ∀ b o, b ≠ X.env.locals -> b ∈ X.fs -> b ∉ ch -> s.heap.get? b = some o -> H b = none -> ∃ sl, h'.get? b = some { o with slots := sl }) (free : ∀ b o, b ∉ ch -> s.heap.get? b = some o -> H b = none -> H' b = none)
  (there : ∀ b o, b ∉ ch -> s.heap.get? b = some o -> ∃ o', h'.get? b = some o')
  (tups : ∀ b xs, H b = some (.tup xs) -> H' b = some (.tup xs)) (frzs : ∀ b o u, H b = some (.frz o u) -> H' b = some (.frz o u)) (tbls : ∀ b ps, H b = some (.tbl ps) -> ∃ more, H' b = some (.tbl (ps ++ more)))
  (ns : ∀ m, s.heap.Ns X.env.locals m -> h'.Ns X.env.locals m) (hok : HOk X.prog X.w H' h') (hg : Uau g') :
  Inv X pins σ H' { s with heap := h', gens := g', drawn := d', toks := t' } := by
 have neL : ∀ b o, X.s₀.heap.get? b = some o -> b ≠ X.env.locals := fun b o e => Xo (Xl (Xe e) I.ok.above)
 have neC : ∀ b o, X.s₀.heap.get? b = some o -> b ∉ X.ex -> b ∉ ch := fun b o e hx hb => by
  rcases (hch b hb).1 with z | z
  ·exact hx z
  ·exact absurd (Xl (Xe e) z) (Wbd _)
 have cellK : ∀ x c, X.env.cells.lookup x = some c -> ∀ v, s.heap.IsCell c v -> h'.IsCell c v := fun x c e v ⟨o, ho, hd⟩ => by
  have nch : c ∉ ch := fun z => (hch c z).2.2.1 x c e rfl
  by_cases hc : c ∈ X.fs
  ·obtain ⟨sl, q⟩ := slot c o (I.cne x c e) hc nch ho (I.freeC x c e)
   exact ⟨_, q, hd⟩
  ·exact ⟨o, keep c o (I.cne x c e) hc nch ho (I.freeC x c e), hd⟩
 refine ⟨I.ok, I.os, hg, ⟨fun b o e n hb hx => ?_, fun b o e n hb hx => ?_, fun b o e n hx => ?_, fun b o e hx => ?_, fun b xs e => tups b xs (I.base.tups b xs e), fun b o xs e => frzs b o xs (I.base.frzs b o xs e), fun b ps e => ?_⟩, ?_, fun x c e => ?_, ?_, fun x c e => ?_, fun p hp => ?_, hok, I.len⟩
 ·exact keep b o (neL b o e) hb (neC b o e hx) (I.base.keep b o e n hb hx) (I.base.free b o e n hx)
 ·obtain ⟨sl, e1⟩ := I.base.slot b o e n hb hx
  obtain ⟨sl', e2⟩ := slot b _ (neL b o e) hb (neC b o e hx) e1 (I.base.free b o e n hx)
  exact ⟨sl', e2⟩
 ·obtain ⟨o', e1⟩ := I.base.there b o e hx
  exact free b o' (neC b o e hx) e1 (I.base.free b o e n hx)
 ·obtain ⟨o', e1⟩ := I.base.there b o e hx
  exact there b o' (neC b o e hx) e1
 ·obtain ⟨m1, e1⟩ := I.base.tbls b ps e
  obtain ⟨m2, e2⟩ := tbls b _ e1
  exact ⟨m1 ++ m2, by rw [e2, Wer]⟩
 ·obtain ⟨m, hn, hl⟩ := I.loc
  refine ⟨m, ns m hn, fun i x v e1 e2 e3 => ?_⟩
  obtain ⟨u, r, l⟩ := hl i x v e1 e2 e3
  refine ⟨u, r, ?_⟩
  rcases l with l | ⟨k, c, e, z⟩
  ·exact .inl l
  ·exact .inr ⟨k, c, e, cellK x c e _ z⟩
 ·obtain ⟨v, z⟩ := I.cell x c e
  exact ⟨v, cellK x c e v z⟩
 ·obtain ⟨m, ⟨o, _, _, ho, _⟩, _⟩ := I.loc
  exact free _ o (fun z => (hch _ z).2.1 rfl) ho I.free
 ·obtain ⟨v, o, ho, hd⟩ := I.cell x c e
  exact free c o (fun z => (hch c z).2.2.1 x c e rfl) ho (I.freeC x c e)
 ·obtain ⟨e, n, ne, nf, d⟩ := I.pin p hp
  have nch : p.1 ∉ ch := fun z => (hch p.1 z).2.2.2 p hp rfl
  exact ⟨keep p.1 p.2 ne nf nch e n, free p.1 p.2 nch e n, ne, nf, d⟩
theorem Inv.un {t' : Nat} (I : Inv X pins σ H s) (u : Un X.fs [] H H' s.heap h') (hok : HOk X.prog X.w H' h') : Inv X pins σ H' { s with heap := h', toks := t' } := by
 obtain ⟨m, ⟨o, es, ep, ho, r⟩, _⟩ := id I.loc
 obtain ⟨sl, hL⟩ := u.any ho I.free (by simp)
 exact I.step (g' := s.gens) (d' := s.drawn) (ch := []) (fun _ z => nomatch z) (fun b o _ hb _ e n => u.keep b o e n hb (by simp)) (fun b o _ hb _ e n => u.slot b o e n hb (by simp)) (fun b o _ e n => u.free b o e n (by simp)) (fun b o _ e => u.there b o e (by simp)) u.tups u.frzs u.tbls (fun m' hm => by
  obtain ⟨o', es', ep', ho', r'⟩ := hm
  rw [ho] at ho'; cases ho'
  exact ⟨_, es', ep', hL, r'⟩) hok I.bare
theorem Inv.call {g' : Array GenState} {t' : Nat} {d' : Drawn} {ch : List Ve} (I : Inv X pins σ H s) (u : Un (frs X.stack) ch H H' s.heap h') (hok : HOk X.prog X.w H' h') (hg : Uau g')
  (hch : ∀ b ∈ ch, (b ∈ X.ex ∨ X.s₀.heap.objs.size ≤ b) ∧ b ≠ X.env.locals ∧ (∀ x c, X.env.cells.lookup x = some c -> c ≠ b) ∧ ∀ p ∈ X.pn ++ pins, p.1 ≠ b) :
  Inv X pins σ H' { s with heap := h', gens := g', drawn := d', toks := t' } := by
 obtain ⟨m, ⟨o, es, ep, ho, r⟩, _⟩ := id I.loc
 obtain ⟨sl, hL⟩ := u.any ho I.free fun z => (hch _ z).2.1 rfl
 exact I.step (ch := ch) hch (fun b o hL hb hc e n => u.keep b o e n (fun z => (Xn.mp (I.stkSub b z)).elim hL hb) hc) (fun b o _ _ hc e n => u.any e n hc) (fun b o hc e n => u.free b o e n hc) (fun b o hc e => u.there b o e hc) u.tups u.frzs u.tbls (fun m' hm => by
  obtain ⟨o', es', ep', ho', r'⟩ := hm
  rw [ho] at ho'; cases ho'
  exact ⟨_, es', ep', hL, r'⟩) hok hg
theorem Inv.turned {t' : Nat} {it : Ve} (I : Inv X pins σ H s) (k : ∀ b o, b ≠ it -> s.heap.get? b = some o -> h'.get? b = some o) (hn : H it = none) (hL : it ≠ X.env.locals)
  (h1 : it ∈ X.ex ∨ X.s₀.heap.objs.size ≤ it) (h2 : ∀ x c, X.env.cells.lookup x = some c -> c ≠ it) (h3 : ∀ p ∈ X.pn ++ pins, p.1 ≠ it) : Inv X pins σ H { s with heap := h', toks := t' } := by
 have nit : ∀ b u, H b = some u -> b ≠ it := fun b u e z => by rw [z, hn] at e; cases e
 refine I.step (g' := s.gens) (d' := s.drawn) (ch := [it]) (fun b hb => ?_) (fun b o _ _ hc e _ => k b o (fun z => hc (by simp [z])) e) (fun b o _ _ hc e _ => ⟨o.slots, k b o (fun z => hc (by simp [z])) e⟩) (fun _ _ _ _ n => n)
  (fun b o hc e => ⟨o, k b o (fun z => hc (by simp [z])) e⟩) (fun _ _ e => e) (fun _ _ _ e => e) (fun b ps e => ⟨#[], by rw [e]; simp⟩) (fun m hm => ?_) (fun b u e => ?_) I.bare
 ·have e : b = it := by simpa using hb
  subst e
  exact ⟨h1, hL, h2, h3⟩
 ·obtain ⟨o, es, ep, ho, r⟩ := hm
  exact ⟨o, es, ep, k _ o (Ui hL) ho, r⟩
 ·refine (I.hok b u e).stay (fun c v hc q => k c v ?_ q) (fun _ q => q) fun _ _ q => q
  rcases hc with z | z
  ·rw [z]; exact nit b u e
  ·exact nit c _ z
theorem Inv.tok (I : Inv X pins σ H s) (t : Nat) : Inv X pins σ H { s with toks := t } := I.un (h' := s.heap) (t' := t) Un.refl I.hok
theorem Inv.kept {t' : Nat} (I : Inv X pins σ H s) (k : ∀ b u, s.heap.get? b = some u -> h'.get? b = some u) : Inv X pins σ H { s with heap := h', toks := t' } := I.un (Un.kept k) (I.hok.kept k)
theorem Inv.laid {a : Ve} {o : HO} {t' : Nat} (I : Inv X pins σ H s) (k : ∀ b u, s.heap.get? b = some u -> h'.get? b = some u) (hp : s.heap.objs.size ≤ a) (new : Zdq X.prog X.w (upd H a o) h' a o) :
  Inv X pins σ (upd H a o) { s with heap := h', toks := t' } := I.un (Un.laid k hp (I.hok.fresh hp)) (I.hok.laid k hp new)
theorem Inv.write {x e : Ve} {o : HO} {t' : Nat} (I : Inv X pins σ H s) (mu : Mut (H x)) (he : e = x ∨ H e = some (.own x)) (k : ∀ b u, b ≠ e -> s.heap.get? b = some u -> h'.get? b = some u) (heo : ∃ u, h'.get? e = some u)
  (new : Zdq X.prog X.w (upd H x o) h' x o) : Inv X pins σ (upd H x o) { s with heap := h', toks := t' } := I.un (Un.write mu he k heo) (I.hok.write mu he k heo new)
theorem Inv.pins_of {pins' : List (Ve × Obj)} (I : Inv X pins σ H s) (h : ∀ p ∈ pins', s.heap.get? p.1 = some p.2 ∧ H p.1 = none ∧ p.1 ≠ X.env.locals ∧ p.1 ∉ X.fs ∧ ∀ v, p.2.data ≠ .cell v) : Inv X pins' σ H s :=
 ⟨I.ok, I.os, I.bare, I.base, I.loc, I.cell, I.free, I.freeC, fun p hp => (Xs.mp hp).elim (fun z => I.pin p (Wal _ z)) (h p), I.hok, I.len⟩
theorem Zkc {N : List Str} (hN : N.Nodup) {i j : Nat} {x : Str} (a : N[i]? = some x) (b : N[j]? = some x) : i = j := by
 obtain ⟨h1, e1⟩ := Xd.mp a
 obtain ⟨h2, e2⟩ := Xd.mp b
 exact (Wff hN).mp (e1.trans e2.symm)
theorem Zl3 {M : Ucf} {A : Vo} {E : Vb -> Vd -> Prop} {i : Nat} {x : Str} {v : V} {u : Vb} {Q : Unit -> Vd -> Prop} (I : Inv X pins σ H s) (hN : X.N.Nodup) (hi : X.N[i]? = some x) (hx : Loc X.env.scope x) (r : Zca v u)
  (h : ∀ s', Inv X pins (σ.set i (some v)) H s' -> (∃ a, Xz a s.heap s'.heap ∧ (a = X.env.locals ∨ X.env.cells.lookup x = some a)) -> Q () s') (hf : X.fn x = true ∨ X.env.scope.names.lookup x = some .local := by first | exact .inl rfl | exact .inr rfl | assumption) : wpAny M A (storeName X.env x u) Q E s := by
 obtain ⟨m, hn, hl⟩ := id I.loc
 have hcls : (X.env.scope.kind == .class || (X.env.scope.kind == .module && X.env.locals != X.env.globals)) = false := by rw [I.ok.kind]; rfl
 have hiσ : i < σ.length := by rw [I.len]; exact (Xd.mp hi).1
 have cne := I.cne
 have tracked : ∀ {a : Ve} {h' : Vu}, (∃ o, s.heap.get? a = some o ∧ H a = none) -> Xz a s.heap h' -> HOk X.prog X.w H h' := fun {a h'} ha hs b ob e => by
  obtain ⟨_, _, hfree⟩ := ha
  refine (I.hok b ob e).stay (fun c w' hc q => (hs.2 c ?_).trans q) (fun _ q => q) fun _ _ q => q
  rintro rfl
  rcases hc with rfl | hc
  ·rw [hfree] at e; cases e
  ·rw [hfree] at hc; cases hc
 rcases hx with hk | hk
 ·refine wpAny_storeName_local hk hn (fun h' hn' hs => ?_) hcls
  obtain ⟨oL, _, _, hoL, _⟩ := id hn
  refine h _ ⟨I.ok, I.os, I.bare, ⟨fun b o e n hb hx => ?_, fun b o e n hb hx => ?_, I.base.free, fun b o e hx => ?_, I.base.tups, I.base.frzs, I.base.tbls⟩, ⟨_, hn', fun j y v' e1 e2 e3 => ?_⟩, fun y c e => ?_, I.free, I.freeC, fun p hp => ?_, tracked ⟨oL, hoL, I.free⟩ hs, by simpa using I.len⟩ ⟨_, hs, .inl rfl⟩
  ·exact (hs.2 b (Xo (Xl (Xe e) I.ok.above))).trans (I.base.keep b o e n hb hx)
  ·obtain ⟨sl, e1⟩ := I.base.slot b o e n hb hx
   exact ⟨sl, (hs.2 b (Xo (Xl (Xe e) I.ok.above))).trans e1⟩
  ·obtain ⟨o', e1⟩ := I.base.there b o e hx
   exact ⟨o', (hs.2 b (Xo (Xl (Xe e) I.ok.above))).trans e1⟩
  ·by_cases hj : j = i
   ·subst hj
    rw [hi] at e1; cases e1
    rw [Wbw hiσ] at e2
    cases e2
    exact ⟨u, r, .inl ⟨hk, by simp⟩⟩
   ·rw [Wam (Ui hj)] at e2
    obtain ⟨u', r', q⟩ := hl j y v' e1 e2 e3
    refine ⟨u', r', ?_⟩
    rcases q with ⟨k, e⟩ | ⟨k, c, e, z⟩
    ·refine .inl ⟨k, ?_⟩
     have : y ≠ x := fun e => hj (Zkc hN e1 (e ▸ hi))
     simp [this, e]
    ·exact .inr ⟨k, c, e, z.sameBut hs (cne y c e)⟩
  ·obtain ⟨w', z⟩ := I.cell y c e
   exact ⟨w', z.sameBut hs (cne y c e)⟩
  ·obtain ⟨e, n, ne, nf, d⟩ := I.pin p hp
   exact ⟨(hs.2 p.1 ne).trans e, n, ne, nf, d⟩
 ·have hfn : X.fn x = true := by
   rcases hf with z | z
   ·exact z
   ·rw [z] at hk; cases hk
  obtain ⟨c, hc⟩ := I.ok.has x (.inl hk)
  obtain ⟨w', z⟩ := I.cell x c hc
  refine wpAny_storeName_cell I.ok.kind hk hc z (fun h' hc' hs => ?_)
  obtain ⟨oc, hoc, hocd⟩ := id z
  refine h { s with heap := h' } ⟨I.ok, I.os, I.bare, ⟨fun b o e n hb hx => ?_, fun b o e n hb hx => ?_, I.base.free, fun b o e hx => ?_, I.base.tups, I.base.frzs, I.base.tbls⟩, ⟨m, hn.sameBut hs (Ui (cne x c hc)), fun j y v' e1 e2 e3 => ?_⟩, fun y c' e => ?_, I.free, I.freeC, fun p hp => ?_, tracked ⟨oc, hoc, I.freeC x c hc⟩ hs, by simpa using I.len⟩ ⟨c, hs, .inr hc⟩
  ·exact (hs.2 b (Xo (Xl (Xe e) (I.ok.cab x c hfn hc)))).trans (I.base.keep b o e n hb hx)
  ·obtain ⟨sl, e1⟩ := I.base.slot b o e n hb hx
   exact ⟨sl, (hs.2 b (Xo (Xl (Xe e) (I.ok.cab x c hfn hc)))).trans e1⟩
  ·obtain ⟨o', e1⟩ := I.base.there b o e hx
   exact ⟨o', (hs.2 b (Xo (Xl (Xe e) (I.ok.cab x c hfn hc)))).trans e1⟩
  ·by_cases hj : j = i
   ·subst hj
    rw [hi] at e1; cases e1
    rw [Wbw hiσ] at e2
    cases e2
    exact ⟨u, r, .inr ⟨.inl hk, c, hc, hc'⟩⟩
   ·rw [Wam (Ui hj)] at e2
    obtain ⟨u', r', q⟩ := hl j y v' e1 e2 e3
    refine ⟨u', r', ?_⟩
    rcases q with q | ⟨k, c', e, z'⟩
    ·exact .inl q
    ·refine .inr ⟨k, c', e, z'.sameBut hs ?_⟩
     rintro rfl
     exact hj (Zkc hN e1 (I.ok.inj _ _ _ e hc ▸ hi))
  ·by_cases hcc : c' = c
   ·subst hcc; exact ⟨_, hc'⟩
   ·obtain ⟨w2, z2⟩ := I.cell y c' e
    exact ⟨w2, z2.sameBut hs hcc⟩
  ·obtain ⟨e, n, ne, nf, d⟩ := I.pin p hp
   refine ⟨(hs.2 p.1 ?_).trans e, n, ne, nf, d⟩
   intro q
   rw [q, hoc] at e
   have q' : oc = p.2 := Waa.inj e
   exact d w' (by rw [← q']; exact hocd)
theorem Zhz {M : Ucf} {A : Vo} {E : Vb -> Vd -> Prop} {i : Nat} {x : Str} {v : V} {u : Vb} {Q : Unit -> Vd -> Prop} (I : Inv X pins σ H s) (hN : X.N.Nodup) (hi : X.N[i]? = some x) (hx : Loc X.env.scope x) (r : Zca v u)
  (h : ∀ s', Inv X pins (σ.set i (some v)) H s' -> Q () s') (hf : X.fn x = true ∨ X.env.scope.names.lookup x = some .local := by first | exact .inl rfl | exact .inr rfl | assumption) : wpAny M A (storeName X.env x u) Q E s :=
 Zl3 I hN hi hx r (fun s' I' _ => h s' I') hf
theorem Inv.call' {s' : Vd} {ch : List Ve} (I : Inv X pins σ H s) (ho : s'.os = s.os) (u : Un (frs X.stack) ch H H' s.heap s'.heap) (hok : HOk X.prog X.w H' s'.heap) (hg : Uau s'.gens)
  (hch : ∀ b ∈ ch, (b ∈ X.ex ∨ X.s₀.heap.objs.size ≤ b) ∧ b ≠ X.env.locals ∧ (∀ x c, X.env.cells.lookup x = some c -> c ≠ b) ∧ ∀ p ∈ X.pn ++ pins, p.1 ≠ b) : Inv X pins σ H' s' := by
 obtain ⟨h', g', d', t', o'⟩ := s'
 have e : o' = s.os := ho
 subst e
 exact I.call (g' := g') (t' := t') (d' := d') u hok hg hch
end
nonrec abbrev XK := Vb -> Option Ve -> Hp -> Prop
nonrec abbrev St := List (Option V)
nonrec abbrev VK := V -> Hp -> Prop
nonrec abbrev TE := St -> Hp -> VK -> Prop
nonrec abbrev TT := St -> Hp -> (Bool -> Hp -> Prop) -> Prop
nonrec abbrev TA := St -> Hp -> (List V -> Hp -> Prop) -> Prop
structure Ends where
 nx : St -> Hp -> Prop
 rt : VK
 bk : St -> Hp -> Prop := fun _ _ => False
 ct : St -> Hp -> Prop := fun _ _ => False
nonrec abbrev TS := Ends -> St -> Hp -> Prop
def EP (X : Cx) (pins : List (Ve × Obj)) (σ : St) (Q : VK) (u : Vb) (s' : Vd) : Prop := ∃ v H', Inv X pins σ H' s' ∧ Zca v u ∧ Q v H'
def TP (X : Cx) (pins : List (Ve × Obj)) (σ : St) (Q : Bool -> Hp -> Prop) (b : Bool) (s' : Vd) : Prop := ∃ H', Inv X pins σ H' s' ∧ Q b H'
def AP (X : Cx) (pins : List (Ve × Obj)) (σ : St) (Q : List V -> Hp -> Prop) (us : List Vb) (s' : Vd) : Prop := ∃ vs H', Inv X pins σ H' s' ∧ Zbp vs us ∧ Q vs H'
def SP (X : Cx) (pins : List (Ve × Obj)) (D : Ends) (f : Flow) (s' : Vd) : Prop :=
 match f with
 | .next => ∃ σ' H', Inv X pins σ' H' s' ∧ D.nx σ' H'
 | .brk => ∃ σ' H', Inv X pins σ' H' s' ∧ D.bk σ' H'
 | .cont => ∃ σ' H', Inv X pins σ' H' s' ∧ D.ct σ' H'
 | .ret u => ∃ v σ' H', Inv X pins σ' H' s' ∧ Zca v u ∧ D.rt v H'
def PE (X : Cx) (e : Vq) (t : TE) : Prop :=
 ∀ (pins : List (Ve × Obj)) (s : Vd) (σ : St) (H : Hp) (Q : VK), Inv X pins σ H s -> t σ H Q -> wpAny (model X.prog X.w) X.A (eval e X.env) (EP X pins σ Q) X.xe s
def PT (X : Cx) (e : Vq) (t : TT) : Prop :=
 ∀ (pins : List (Ve × Obj)) (s : Vd) (σ : St) (H : Hp) (Q : Bool -> Hp -> Prop), Inv X pins σ H s -> t σ H Q -> wpAny (model X.prog X.w) X.A (isTrue e X.env (eval e X.env)) (TP X pins σ Q) X.xe s
def PW (X : Cx) (e : Vq) (t : TT) : Prop :=
 ∀ (whole : Sem Vb) (pins : List (Ve × Obj)) (s : Vd) (σ : St) (H : Hp) (Q : Bool -> Hp -> Prop), Inv X pins σ H s -> t σ H Q -> wpAny (model X.prog X.w) X.A (isTrue e X.env whole) (TP X pins σ Q) X.xe s
def PA (X : Cx) (es : List Vq) (t : TA) : Prop :=
 ∀ (pos : Pos) (pins : List (Ve × Obj)) (s : Vd) (σ : St) (H : Hp) (Q : List V -> Hp -> Prop), Inv X pins σ H s -> t σ H Q -> wpAny (model X.prog X.w) X.A (spliced (backTo pos (starEach es X.env))) (AP X pins σ Q) X.xe s
def PS (X : Cx) (st : Vw) (t : TS) : Prop :=
 ∀ (pins : List (Ve × Obj)) (s : Vd) (σ : St) (H : Hp) (D : Ends), Inv X pins σ H s -> t D σ H -> wpAny (model X.prog X.w) X.A (exec st X.env) (SP X pins D) X.xe s
def PSs (X : Cx) (st : List Vw) (t : TS) : Prop :=
 ∀ (pins : List (Ve × Obj)) (s : Vd) (σ : St) (H : Hp) (D : Ends), Inv X pins σ H s -> t D σ H -> wpAny (model X.prog X.w) X.A (execs st X.env) (SP X pins D) X.xe s
theorem thn {α : Type} {t : Sem α} {Q Q' : α -> Vd -> Prop} {M : Ucf} {A : Vo} {E : Vb -> Vd -> Prop} {s : Vd} (h : wpAny M A t Q E s) (hQ : ∀ a s, Q a s -> Q' a s) : wpAny M A t Q' E s := Vn h hQ fun _ _ x => x
section
variable {X : Cx}
nonrec def tVar (i : Nat) : TE := fun σ H Q => ∃ v, σ[i]? = some (some v) ∧ Q v H
nonrec def tC (v : V) : TE := fun _ H Q => Q v H
theorem Zgg {i : Nat} {x : Str} {pos : Pos} (hN : X.N[i]? = some x) (hv : Vis X.env.scope x) (hd : (x == ("__debug__" : Str)) = false := by decide) (hcd : (x == ("__classdict__" : Str)) = false := by decide) : PE X (.Name x pos) (tVar i) := by
 intro pins s σ H Q I h
 obtain ⟨v, e, h⟩ := h
 obtain ⟨m, hn, hl⟩ := I.loc
 obtain ⟨u, r, l⟩ := hl i x v hN e hv
 have fin : EP X pins σ Q u s := ⟨v, H, I, r, h⟩
 rcases l with ⟨hk, hm⟩ | ⟨hk, c, hc, hcell⟩
 ·exact wpAny_Name (wpAny_loadName_local I.ok.kind hk hn hm fin) hd
 ·rcases hk with hk | hk
  ·exact wpAny_Name (wpAny_loadName_cell I.ok.kind hk hc hcell fin) hd
  ·exact wpAny_Name (wpAny_loadName_free I.ok.kind hk hc hcell fin hcd) hd
theorem Zzz {i j pos} : PE X (.Constant (.int i) j pos) (tC (.int i)) := fun _ _ _ H _ I h => wpAny_Constant_int ⟨.int i, H, I.tok _, ⟨_, rfl⟩, h⟩
theorem pe_bl {b j pos} : PE X (.Constant (.bool b) j pos) (tC (.bl b)) := fun _ _ _ H _ I h => Constant_bool ⟨.bl b, H, I, rfl, h⟩
theorem Yb5 {j pos} : PE X (.Constant .none j pos) (tC .non) := fun _ _ _ H _ I h => Constant_none ⟨.non, H, I, rfl, h⟩
theorem Zrz {x j pos} : PE X (.Constant (.str x) j pos) (tC (.str x)) := fun _ _ _ H _ I h => Calls.Constant_str ⟨.str x, H, I.tok _, ⟨_, rfl⟩, h⟩
def Gl (X : Cx) (x : Str) : Prop := X.env.kindOf x = some .globalImplicit
theorem Zek {E : Vb -> Vd -> Prop} {pins : List (Ve × Obj)} {s : Vd} {σ : St} {H : Hp} {x : Str} {u : Vb} {pos : Pos} {Q : Vb -> Vd -> Prop} (I : Inv X pins σ H s) (hg : Gl X x) (hm : X.mg x = some u) (h : Q u s)
  (hd : (x == ("__debug__" : Str)) = false := by decide) : wpAny (model X.prog X.w) X.A (eval (.Name x pos) X.env) Q E s :=
 Calls.Name_function_global I.ok.kind hg (Calls.loadGlobal_global (by rw [I.ok.glob]; exact I.mod.glob.keeps I.bk) hm h) hd
theorem Zfh {E : Vb -> Vd -> Prop} {pins : List (Ve × Obj)} {s : Vd} {σ : St} {H : Hp} {x : Str} {u : Vb} {pos : Pos} {Q : Vb -> Vd -> Prop} (I : Inv X pins σ H s) (hg : Gl X x) (hm : X.mg x = none) (hv : bootBuiltins x = some u) (h : Q u s)
  (hn : x ≠ "__name__" := by decide) (hd : (x == ("__debug__" : Str)) = false := by decide) : wpAny (model X.prog X.w) X.A (eval (.Name x pos) X.env) Q E s := by
 obtain ⟨mb, h1, h2⟩ := I.mod.blt
 exact Calls.Name_function_global I.ok.kind hg (Calls.loadGlobal_builtin (by rw [I.ok.glob]; exact I.mod.glob.keeps I.bk) hm (by rw [I.ok.blt]; exact h1.keeps I.bk) ((h2 x hn).trans hv) h) hd
theorem Zm1 {x : Str} {v : V} {u : Vb} {pos : Pos} (hg : Gl X x) (hm : X.mg x = some u) (r : Zca v u) (hd : (x == ("__debug__" : Str)) = false := by decide) : PE X (.Name x pos) (tC v) :=
 fun _ _ _ H _ I h => Zek I hg hm ⟨v, H, I, r, h⟩ hd
theorem Ztc {x : Str} {v : V} {u : Vb} {pos : Pos} (hg : Gl X x) (hm : X.mg x = none) (hv : bootBuiltins x = some u) (r : Zca v u) (hn : x ≠ "__name__" := by decide) (hd : (x == ("__debug__" : Str)) = false := by decide) : PE X (.Name x pos) (tC v) :=
 fun _ _ _ H _ I h => Zfh I hg hm hv ⟨v, H, I, r, h⟩ hn hd
variable {a b : Vq} {ta tb : TE} {pos : Pos}
variable {tA tB' : TT} {rest : List Vq}
nonrec def tAnd (t u : TT) : TT := fun σ H Q => t σ H fun c H1 => if c = true then u σ H1 Q else Q false H1
nonrec def tOr (t u : TT) : TT := fun σ H Q => t σ H fun c H1 => if c = true then Q true H1 else u σ H1 Q
nonrec def tNot (t : TT) : TT := fun σ H Q => t σ H fun c H1 => Q (!c) H1
theorem Zy3 (ha : PT X a tA) : PW X (.BoolOp .And [a] pos) tA := by
 intro wh pins s σ H Q I h
 refine isTrue_and (thn (ha pins s σ H Q I h) fun c s1 e => ?_)
 cases c with
 | true => exact isTrue_and_nil e
 | false => exact e
theorem Yag (ha : PT X a tA) : PW X (.BoolOp .Or [a] pos) tA := by
 intro wh pins s σ H Q I h
 refine isTrue_or (thn (ha pins s σ H Q I h) fun c s1 e => ?_)
 cases c with
 | false => exact isTrue_or_nil e
 | true => exact e
theorem Yac (ha : PT X a tA) (hb : PW X (.BoolOp .And (b :: rest) pos) tB') : PW X (.BoolOp .And (a :: b :: rest) pos) (tAnd tA tB') := by
 intro wh pins s σ H Q I h
 refine isTrue_and (thn (ha pins s σ H _ I h) fun c s1 zz => ?_)
 obtain ⟨H1, I1, q1⟩ := zz
 cases c with
 | true => exact hb wh pins s1 σ H1 Q I1 q1
 | false => exact ⟨H1, I1, q1⟩
theorem pw_or (ha : PT X a tA) (hb : PW X (.BoolOp .Or (b :: rest) pos) tB') : PW X (.BoolOp .Or (a :: b :: rest) pos) (tOr tA tB') := by
 intro wh pins s σ H Q I h
 refine isTrue_or (thn (ha pins s σ H _ I h) fun c s1 zz => ?_)
 obtain ⟨H1, I1, q1⟩ := zz
 cases c with
 | true => exact ⟨H1, I1, q1⟩
 | false => exact hb wh pins s1 σ H1 Q I1 q1
theorem Ycg (ha : PT X a tA) : PT X (.UnaryOp .Not a pos) (tNot tA) := by
 intro pins s σ H Q I h
 exact isTrue_not (ha pins s σ H (fun c H1 => Q (!c) H1) I h)
nonrec def tAndV (ta tb : TE) : TE := fun σ H Q => ta σ H fun x H1 => ∃ c, x = .bl c ∧ if c = true then tb σ H1 Q else Q (.bl false) H1
nonrec def tNotV (ta : TE) : TE := fun σ H Q => ta σ H fun x H1 => ∃ c, x = .bl c ∧ Q (.bl (!c)) H1
theorem Ybj {op} {t : TE} (h : PE X a t) : PE X (.BoolOp op [a] pos) t := fun pins s σ H Q I hw => BoolOp_one (h pins s σ H Q I hw)
theorem Ybe (ha : PE X a ta) (hb : PE X (.BoolOp .And (b :: rest) pos) tb) : PE X (.BoolOp .And (a :: b :: rest) pos) (tAndV ta tb) := by
 intro pins s σ H Q I h
 refine BoolOp_and (thn (ha pins s σ H _ I h) fun v s1 zz => ?_)
 obtain ⟨x, H1, I1, r1, q1⟩ := zz
 obtain ⟨c, rfl, q1⟩ := q1
 cases r1
 refine Vv ?_
 cases c with
 | true => exact hb pins s1 σ H1 Q I1 q1
 | false => exact ⟨.bl false, H1, I1, rfl, q1⟩
theorem Ycm (ha : PE X a ta) : PE X (.UnaryOp .Not a pos) (tNotV ta) := by
 intro pins s σ H Q I h
 refine UnaryOp_ (thn (ha pins s σ H _ I h) fun v s1 zz => ?_)
 obtain ⟨x, H1, I1, r1, q1⟩ := zz
 obtain ⟨c, rfl, q1⟩ := q1
 cases r1
 exact not_of (Vv ⟨.bl (!c), H1, I1, rfl, q1⟩)
end
def SqL (K : Xa) (H : Hp) (a : Ve) (xs : List V) : Prop :=
 Rd H a (.lst xs) ∨
  ∃ (o : Obj) (its : Array Vb) (n : Nat), K.lookup a = some o ∧ o.cls = .type "list" ∧ o.dict = none ∧ o.data = .seq its n ∧ its.size ≤ sizeLine ∧ Zbp xs its.toList
def SqT (K : Xa) (H : Hp) (a : Ve) (xs : List V) : Prop :=
 Rd H a (.tup xs) ∨
  ∃ (o : Obj) (its : Array Vb) (n : Nat), K.lookup a = some o ∧ o.cls = .type "tuple" ∧ o.data = .seq its n ∧ its.size ≤ sizeLine ∧ Zbp xs its.toList ∧ o.dict = none
nonrec def absV : Vb -> Option V
 | .none => some .non
 | .bool b => some (.bl b)
 | .int i _ => some (.int i)
 | .str x _ => some (.str x)
 | .bytes b _ => some (.byt b)
 | .float b _ => some (.flt b)
 | .ref a => some (.ref a)
 | .type n => some (.ty n)
 | _ => none
theorem Zca.abs {x : V} {u : Vb} (r : Zca x u) : absV u = some x := by
 cases x with
 | non => cases r; rfl
 | bl _ => cases r; rfl
 | int _ => obtain ⟨t, rfl⟩ := r; rfl
 | str _ => obtain ⟨t, rfl⟩ := r; rfl
 | byt _ => obtain ⟨t, rfl⟩ := r; rfl
 | flt _ => obtain ⟨t, rfl⟩ := r; rfl
 | ref _ => cases r; rfl
 | ty _ => cases r; rfl
theorem Zca.inj {x y : V} {u : Vb} (r : Zca x u) (q : Zca y u) : x = y := Waa.inj (r.abs.symm.trans q.abs)
theorem Zbp.inj : ∀ {xs ys : List V} {us : List Vb}, Zbp xs us -> Zbp ys us -> xs = ys := by
 intro xs ys us h
 induction h generalizing ys with
 | nil => intro h'; cases h'; rfl
 | cons r t ih =>
  intro h'
  cases h' with
  | cons r' t' => rw [r.inj r', ih t']
section
variable {X : Cx} {pins : List (Ve × Obj)} {σ : St} {H : Hp} {s : Vd} {a : Ve} {xs ys : List V}
theorem SqL.of {K : Xa} (h : H a = some (.lst xs)) : SqL K H a xs := .inl (.inl h)
theorem SqT.of {K : Xa} (h : H a = some (.tup xs)) : SqT K H a xs := .inl (.inl h)
theorem Inv.list (I : Inv X pins σ H s) (h : SqL X.K H a xs) : ∃ its : List Vb, Zbp xs its ∧ PlainL s.heap a its.toArray ∧ xs.length ≤ sizeLine := by
 rcases h with h | ⟨o, its, n, hk, hc, hd, hs, hz, r⟩
 ·obtain ⟨z, its, n, r, e⟩ := h.ok I.hok
  exact ⟨its, r, ⟨_, n, e, rfl, rfl, rfl⟩, z⟩
 ·refine ⟨its.toList, r, ⟨o, n, I.kIn a o hk, hc, hd, by simpa using hs⟩, ?_⟩
  have e := r.length
  simp only [Wcg] at e
  omega
theorem Inv.tuple (I : Inv X pins σ H s) (h : SqT X.K H a xs) : ∃ its : List Vb, Zbp xs its ∧ Uce s.heap a its.toArray ∧ xs.length ≤ sizeLine := by
 rcases h with h | ⟨o, its, n, hk, hc, hs, hz, r, _⟩
 ·obtain ⟨z, its, r, p⟩ := h.ok I.hok
  exact ⟨its, r, p.tup, z⟩
 ·refine ⟨its.toList, r, ⟨o, I.kIn a o hk, hc, n, by simpa using hs⟩, ?_⟩
  have e := r.length
  simp only [Wcg] at e
  omega
theorem Inv.list_inj (I : Inv X pins σ H s) (h : SqL X.K H a xs) (h' : SqL X.K H a ys) : xs = ys := by
 obtain ⟨its, r, ⟨o, n, e, _, _, d⟩, _⟩ := I.list h
 obtain ⟨its', r', ⟨o', n', e', _, _, d'⟩, _⟩ := I.list h'
 rw [e] at e'; cases e'
 rw [d] at d'
 injection d' with d1 _
 have : its = its' := by simpa using congrArg Array.toList d1
 subst this
 exact r.inj r'
theorem Inv.tuple_inj (I : Inv X pins σ H s) (h : SqT X.K H a xs) (h' : SqT X.K H a ys) : xs = ys := by
 obtain ⟨its, r, ⟨o, e, _, n, d⟩, _⟩ := I.tuple h
 obtain ⟨its', r', ⟨o', e', _, n', d'⟩, _⟩ := I.tuple h'
 rw [e] at e'; cases e'
 rw [d] at d'
 injection d' with d1 _
 have : its = its' := by simpa using congrArg Array.toList d1
 subst this
 exact r.inj r'
end
nonrec abbrev Cx.wish (X : Cx) (E : Vb -> Vd -> Prop) : Cx := { X with xe := E }
nonrec abbrev Cx.nox (X : Cx) : Cx := X.wish fun _ _ => False
theorem Cx.Ok.wish {X : Cx} (ok : X.Ok) (E : Vb -> Vd -> Prop) : (X.wish E).Ok :=
 ⟨ok.mod, ok.kind, ok.glob, ok.blt, ok.above, ok.inj, ok.has, ok.cab, ok.hd, ok.frames, ok.stk, ok.exf, ok.bs, ok.bsz, ok.noex, ok.exfs, ok.funs, ok.frf⟩
theorem Cx.Ok.unwish {X : Cx} {E : Vb -> Vd -> Prop} (ok : (X.wish E).Ok) : X.Ok :=
 ⟨ok.mod, ok.kind, ok.glob, ok.blt, ok.above, ok.inj, ok.has, ok.cab, ok.hd, ok.frames, ok.stk, ok.exf, ok.bs, ok.bsz, ok.noex, ok.exfs, ok.funs, ok.frf⟩
section
variable {X : Cx} {pins : List (Ve × Obj)} {σ : St} {H : Hp} {s : Vd} {E : Vb -> Vd -> Prop}
theorem Inv.wish (I : Inv X pins σ H s) (E : Vb -> Vd -> Prop) : Inv (X.wish E) pins σ H s := ⟨I.ok.wish E, I.os, I.bare, I.base, I.loc, I.cell, I.free, I.freeC, I.pin, I.hok, I.len⟩
theorem Inv.unwish (I : Inv (X.wish E) pins σ H s) : Inv X pins σ H s := ⟨I.ok.unwish, I.os, I.bare, I.base, I.loc, I.cell, I.free, I.freeC, I.pin, I.hok, I.len⟩
theorem SP.unwish {D : Ends} {f : Flow} {s' : Vd} (h : SP (X.wish E) pins D f s') : SP X pins D f s' := by
 cases f with
 | next => obtain ⟨σ', H', I, q⟩ := h; exact ⟨σ', H', I.unwish, q⟩
 | brk => obtain ⟨σ', H', I, q⟩ := h; exact ⟨σ', H', I.unwish, q⟩
 | cont => obtain ⟨σ', H', I, q⟩ := h; exact ⟨σ', H', I.unwish, q⟩
 | ret u => obtain ⟨v, σ', H', I, r, q⟩ := h; exact ⟨v, σ', H', I.unwish, r, q⟩
theorem PT.nox {e : Vq} {t : TT} (h : PT X.nox e t) : PT X e t := fun pins s σ H Q I hw =>
 Vn (h pins s σ H Q (I.wish _) hw) (fun _ _ ⟨H', I', q⟩ => ⟨H', I'.unwish, q⟩) fun _ _ z => Ue z
theorem PSs.nox {st : List Vw} {t : TS} (h : PSs X.nox st t) : PSs X st t := fun pins s σ H D I hw =>
 Vn (h pins s σ H D (I.wish _) hw) (fun _ _ q => q.unwish) fun _ _ z => Ue z
end
section
variable {X : Cx} {st : Vw} {rest : List Vw} {t u : TS} {e : Vq} {te : TE} {pos : Pos}
nonrec def tNext : TS := fun D σ H => D.nx σ H
nonrec def tSeq (t u : TS) : TS := fun D σ H => t { D with nx := u D } σ H
theorem Zsd : PSs X [] tNext := fun _ _ σ H _ I h => Uag ⟨σ, H, I, h⟩
theorem Zf1 (h1 : PS X st t) (h2 : PSs X rest u) : PSs X (st :: rest) (tSeq t u) := by
 intro pins s σ H D I h
 refine Uar (thn (h1 pins s σ H { D with nx := u D } I h) fun f s1 q => ?_)
 cases f with
 | next =>
  obtain ⟨σ', H', I', q⟩ := q
  exact h2 pins s1 σ' H' D I' q
 | ret v => exact q
 | brk => exact q
 | cont => exact q
theorem Zyh (h1 : PS X st t) : PSs X [st] t := by
 intro pins s σ H D I h
 refine Uar (thn (h1 pins s σ H D I h) fun f s1 q => ?_)
 cases f with
 | next => exact Uag q
 | ret v => exact q
 | brk => exact q
 | cont => exact q
theorem Inv.quiet {pins : List (Ve × Obj)} {σ : St} {H : Hp} {s : Vd} (I : Inv X pins σ H s) : interactive X.env = false := by simp [interactive, I.ok.kind]
nonrec def tDrop (te : TE) : TS := fun D σ H => te σ H fun _ H1 => D.nx σ H1
theorem Zq2 (he : PE X e te) (hs : swapsWith e none pos.line X.env = pure false := by rfl) : PS X (.Expr e pos) (tDrop te) := by
 intro pins s σ H D I h
 exact wpAny_Expr_any (thn (he pins s σ H _ I h) fun v s1 ⟨x, H1, I1, r1, q1⟩ => ⟨σ, H1, I1, q1⟩) I.quiet hs
nonrec def tRet (te : TE) : TS := fun D σ H => te σ H D.rt
theorem Zvr (he : PE X e te) : PS X (.Return (some e) pos) (tRet te) := by
 intro pins s σ H D I h
 exact wpAny_Return_some (thn (he pins s σ H _ I h) fun v s1 ⟨x, H1, I1, r1, q1⟩ => ⟨x, σ, H1, I1, r1, q1⟩)
nonrec def tIfS (c : TT) (t u : TS) : TS := fun D σ H => c σ H fun b H1 => if b = true then t D σ H1 else u D σ H1
theorem Yaw {c : Vq} {a b : List Vw} {tc : TT} (hc : PT X c tc) (ha : PSs X a t) (hb : PSs X b u) : PS X (.If c a b pos) (tIfS tc t u) := by
 intro pins s σ H D I h
 refine wpAny_If (thn (hc pins s σ H _ I h) fun d s1 zz => ?_)
 obtain ⟨H1, I1, q1⟩ := zz
 cases d with
 | true => exact ha pins s1 σ H1 D I1 q1
 | false => exact hb pins s1 σ H1 D I1 q1
end
nonrec abbrev TG := V -> St -> Hp -> (St -> Hp -> Prop) -> Prop
nonrec abbrev TGs := List V -> St -> Hp -> (St -> Hp -> Prop) -> Prop
def PG (X : Cx) (target : Vq) (t : TG) : Prop :=
 ∀ (pins : List (Ve × Obj)) (s : Vd) (σ : St) (H : Hp) (v : V) (u : Vb) (Q : St -> Hp -> Prop), Inv X pins σ H s -> Zca v u -> t v σ H Q →
  wpAny (model X.prog X.w) X.A (assign target X.env u) (fun _ s' => ∃ σ' H', Inv X pins σ' H' s' ∧ Q σ' H') X.xe s
def PGs (X : Cx) (ts : List Vq) (t : TGs) : Prop :=
 ∀ (pins : List (Ve × Obj)) (s : Vd) (σ : St) (H : Hp) (vs : List V) (us : List Vb) (Q : St -> Hp -> Prop), Inv X pins σ H s -> Zbp vs us -> t vs σ H Q →
  wpAny (model X.prog X.w) X.A (assignInOrder ((assignEach ts X.env).map (·.2)) us) (fun _ s' => ∃ σ' H', Inv X pins σ' H' s' ∧ Q σ' H') X.xe s
nonrec abbrev TSet := V -> V -> V -> Hp -> (Hp -> Prop) -> Prop
def PSet (X : Cx) (t : TSet) : Prop :=
 ∀ (pins : List (Ve × Obj)) (s : Vd) (σ : St) (H : Hp) (o i v : V) (ov iv u : Vb) (Q : Hp -> Prop), Inv X pins σ H s -> Zca o ov -> Zca i iv -> Zca v u -> t o i v H Q →
  wpAny (model X.prog X.w) X.A (setItem ov iv u) (fun _ s' => ∃ H', Inv X pins σ H' s' ∧ Q H') X.xe s
nonrec abbrev TIp := V -> V -> Hp -> VK -> Prop
def PIp (X : Cx) (op : Ubw) (t : TIp) : Prop :=
 ∀ (pins : List (Ve × Obj)) (s : Vd) (σ : St) (H : Hp) (x y : V) (v u : Vb) (Q : VK), Inv X pins σ H s -> Zca x v -> Zca y u -> t x y H Q →
  wpAny (model X.prog X.w) X.A (inplaceOp op v u) (EP X pins σ Q) X.xe s
section
variable {X : Cx} {pos : Pos}
nonrec def Zp3 (i : Nat) : TG := fun v σ H Q => Q (σ.set i (some v)) H
theorem Zqb {i : Nat} {x : Str} (hN : X.N.Nodup) (hi : X.N[i]? = some x) (hx : Loc X.env.scope x) (hf : X.fn x = true ∨ X.env.scope.names.lookup x = some .local := by first | exact .inl rfl | exact .inr rfl | assumption) : PG X (.Name x pos) (Zp3 i) := by
 intro pins s σ H v u Q I r h
 exact wpAny_assign_Name (Zhz I hN hi hx r (fun s' I' => ⟨_, H, I', h⟩) hf)
nonrec def gNil : TGs := fun vs σ H Q => vs = [] ∧ Q σ H
nonrec def gCons (t : TG) (u : TGs) : TGs := fun vs σ H Q => ∃ v r, vs = v :: r ∧ t v σ H fun σ' H' => u r σ' H' Q
theorem Zxx : PGs X [] gNil := by
 intro pins s σ H vs us Q I r h
 obtain ⟨e, h⟩ := h
 subst e
 cases r
 exact assignInOrder_nil ⟨σ, H, I, h⟩
theorem Zui {e : Vq} {es : List Vq} {t : TG} {u : TGs} (h1 : PG X e t) (h2 : PGs X es u)
  (hs : (assignEach (e :: es) X.env).map (·.2) = assign e X.env :: (assignEach es X.env).map (·.2) := by rfl) : PGs X (e :: es) (gCons t u) := by
 intro pins s σ H vs us Q I r h
 obtain ⟨v, vr, e1, h⟩ := h
 subst e1
 cases r with
 | cons r rr =>
  rw [hs]
  refine assignInOrder_cons (thn (h1 pins s σ H _ _ _ I r h) fun _ s1 zz => ?_)
  obtain ⟨σ1, H1, I1, q1⟩ := zz
  exact h2 pins s1 σ1 H1 _ _ Q I1 rr q1
nonrec def gTup (K : Xa) (n : Nat) (t : TGs) : TG := fun v σ H Q => ∃ a xs, v = .ref a ∧ SqT K H a xs ∧ xs.length = n ∧ t xs σ H Q
theorem Ybl {es : List Vq} {k : Nat} {t : TGs} {n : Nat} (hc : X.calm = true) (h : PGs X es t)
  (hn : (assignEach es X.env).length = n := by rfl) (hst : (assignEach es X.env).findIdx? (·.1) = none := by rfl) : PG X (.Tuple es k pos) (gTup X.K n t) := by
 intro pins s σ H v u Q I r hw
 obtain ⟨a, xs, e1, hq, hl, hw⟩ := hw
 subst e1
 cases r
 obtain ⟨its, rv, ht, hz⟩ := I.tuple hq
 refine assign_Tuple_tuple (I.ok.hd hc) ht (by simp [hn, ← hl, rv.length]) hst fun h' hx => ?_
 have I1 : Inv X pins σ H { s with heap := h' } := I.kept (t' := s.toks) fun b o e => hx b o (Xo (Xe e)) e
 exact h pins _ σ H xs _ Q I1 (by simpa using rv) hw
nonrec def gSub (to ti : TE) (t : TSet) : TG := fun v σ H Q => to σ H fun o H1 => ti σ H1 fun i H2 => t o i v H2 fun H3 => Q σ H3
theorem Ych {o i : Vq} {to ti : TE} {t : TSet} (ho : PE X o to) (hi : PE X i ti) (hs : PSet X t)
  (ha : ∀ v, assign (.Subscript o i pos) X.env v = (do
   let ov ← holding [v] (eval o X.env)
   let iv ← holding [v, ov] (eval i X.env)
   standAt pos
   holding [v, ov, iv] (setItem ov iv v)
   release [v, ov, iv] []) := by intro _; rfl) : PG X (.Subscript o i pos) (gSub to ti t) := by
 intro pins s σ H v u Q I r h
 rw [ha]
 refine Va (Vr (thn (ho pins s σ H _ I h) fun ov s1 zz => ?_))
 obtain ⟨x, H1, I1, r1, q1⟩ := zz
 refine Va (Vr (thn (hi pins s1 σ H1 _ I1 q1) fun iv s2 zz => ?_))
 obtain ⟨y, H2, I2, r2, q2⟩ := zz
 refine Va (Uas (Va (Vr (thn (hs pins s2 σ H2 x y v ov iv u _ I2 r1 r2 r q2) fun _ s3 zz => ?_))))
 obtain ⟨H3, I3, q3⟩ := zz
 exact wpAny_release ⟨σ, H3, I3, q3⟩
nonrec def tAsg (te : TE) (g : TG) : TS := fun D σ H => te σ H fun x H1 => g x σ H1 D.nx
theorem Zzr {tg e : Vq} {te : TE} {g : TG} (he : PE X e te) (hg : PG X tg g) (hs : swapsWithSole [tg] e pos.line X.env = pure false := by rfl) (hw : swappedStores [tg] e X.env = pure none := by rfl)
  (h1 : (assignEach [tg] X.env).map (·.2) = [assign tg X.env] := by rfl) : PS X (.Assign [tg] e pos) (tAsg te g) := by
 intro pins s σ H D I h
 refine wpAny_Assign_stores (thn (he pins s σ H _ I h) fun v s1 ⟨x, H1, I1, r1, q1⟩ => ?_) hs hw
 rw [h1]
 exact thn (hg pins s1 σ H1 x v _ I1 r1 q1) fun _ s2 q => q
theorem Zwg {i : Nat} {x : Str} {e : Vq} {te : TE} {pos' : Pos} (hN : X.N.Nodup) (hi : X.N[i]? = some x) (hx : Loc X.env.scope x) (he : PE X e te) (hs : swapsWith e (some (.Name x pos')) pos.line X.env = pure false := by rfl) (hf : X.fn x = true ∨ X.env.scope.names.lookup x = some .local := by first | exact .inl rfl | exact .inr rfl | assumption) :
  PS X (.Assign [.Name x pos'] e pos) (tAsg te (Zp3 i)) := by
 intro pins s σ H D I h
 refine wpAny_Assign_Name (thn (he pins s σ H _ I h) fun v s1 ⟨y, H1, I1, r1, q1⟩ => ?_) hs
 exact Zhz I1 hN hi hx r1 (fun s2 I2 => ⟨_, H1, I2, q1⟩) hf
nonrec def tAug (i : Nat) (te : TE) (ti : TIp) : TS := fun D σ H => ∃ x, σ[i]? = some (some x) ∧ te σ H fun y H1 => ti x y H1 fun z H2 => D.nx (σ.set i (some z)) H2
theorem Ybw {i : Nat} {x : Str} {e : Vq} {te : TE} {op : Ubw} {ti : TIp} {pos' : Pos} (hN : X.N.Nodup) (hi : X.N[i]? = some x) (hx : Loc X.env.scope x) (he : PE X e te) (ho : PIp X op ti) (hf : X.fn x = true ∨ X.env.scope.names.lookup x = some .local := by first | exact .inl rfl | exact .inr rfl | assumption) :
  PS X (.AugAssign (.Name x pos') op e pos) (tAug i te ti) := by
 intro pins s σ H D I h
 obtain ⟨v, e1, h⟩ := h
 obtain ⟨m, hn, hl⟩ := I.loc
 have vis : Vis X.env.scope x := by rcases hx with k | k; exact .inl k; exact .inr (.inl k)
 obtain ⟨u, r, l⟩ := hl i x v hi e1 vis
 refine wpAny_AugAssign_Name ?_
 have go : wpAny (model X.prog X.w) X.A (eval e X.env) (fun w s₂ => wpAny (model X.prog X.w) X.A (inplaceOp op u w) (fun r s₃ => wpAny (model X.prog X.w) X.A (storeName X.env x r) (fun _ => SP X pins D .next) X.xe s₃) X.xe s₂) X.xe s := by
  refine thn (he pins s σ H _ I h) fun w s1 zz => ?_
  obtain ⟨y, H1, I1, r1, q1⟩ := zz
  refine thn (ho pins s1 σ H1 v y u w _ I1 r r1 q1) fun z s2 zz => ?_
  obtain ⟨zv, H2, I2, r2, q2⟩ := zz
  exact Zhz I2 hN hi hx r2 (fun s3 I3 => ⟨_, H2, I3, q2⟩) hf
 rcases l with ⟨hk, hm⟩ | ⟨hk, c, hc, hcell⟩
 ·exact wpAny_loadName_local I.ok.kind hk hn hm go
 ·rcases hk with hk | hk
  ·exact wpAny_loadName_cell I.ok.kind hk hc hcell go
  ·rcases hx with k | k
   ·have : X.env.scope.names.lookup x = some .free := hk
    rw [k] at this; cases this
   ·have : X.env.scope.names.lookup x = some .free := hk
    rw [k] at this; cases this
nonrec def ipI (f : Int -> Int -> Int) : TIp := fun x y H Q => ∃ i j, x = .int i ∧ y = .int j ∧ Q (.int (f i j)) H
theorem Ybu : PIp X .Sub (ipI fun i j => i - j) := by
 intro pins s σ H x y v u Q I r1 r2 h
 obtain ⟨i, j, e1, e2, q⟩ := h
 subst e1; subst e2
 obtain ⟨t, rfl⟩ := r1
 obtain ⟨t', rfl⟩ := r2
 exact isub_int ⟨.int _, H, I.tok _, ⟨_, rfl⟩, q⟩
end
section
variable {X : Cx} {pos : Pos}
nonrec def Ycf (c : TT) (tb : TS) : TS := fun D σ H => ∃ W : Nat -> St -> Hp -> Prop, (∃ m, W m σ H) ∧ ∀ m σ H, W m σ H →
 c σ H fun b H1 => if b = true then ∃ N : St -> Hp -> Prop, (∀ σ' H', N σ' H' -> ∃ m', m' < m ∧ W m' σ' H') ∧ tb { D with nx := N, ct := N, bk := D.nx } σ H1 else D.nx σ H1
theorem Zuk {c : Vq} {body : List Vw} {tc : TT} {tb : TS} (hp : Ubb (model X.prog X.w) X.A X.env X.xe) (hc : PT X c tc) (hb : PSs X body tb) : PS X (.While c body [] pos) (Ycf tc tb) := by
 intro pins s σ H D I h
 obtain ⟨W, ⟨m0, w0⟩, turn⟩ := h
 refine wpAny_While (codeAny_whileLoop (fun n s' => ∃ σ' H', Inv X pins σ' H' s' ∧ W n σ' H') ?_ m0 ⟨σ, H, I, w0⟩)
 rintro n s1 ⟨σ1, H1, I1, w1⟩
 refine Uac hp (thn (hc pins s1 σ1 H1 _ I1 (turn n σ1 H1 w1)) fun b s2 zz => ?_)
 obtain ⟨H2, I2, q2⟩ := zz
 cases b with
 | true =>
  obtain ⟨N, hN, q2⟩ := q2
  rw [if_pos rfl]
  refine Uac hp (thn (hb pins s2 σ1 H2 _ I2 q2) fun f s3 q3 => ?_)
  cases f with
  | next =>
   obtain ⟨σ3, H3, I3, n3⟩ := q3
   obtain ⟨m', hm, w3⟩ := hN σ3 H3 n3
   exact ⟨m', hm, σ3, H3, I3, w3⟩
  | cont =>
   obtain ⟨σ3, H3, I3, n3⟩ := q3
   obtain ⟨m', hm, w3⟩ := hN σ3 H3 n3
   exact ⟨m', hm, σ3, H3, I3, w3⟩
  | brk => exact q3
  | ret v => exact q3
 | false =>
  rw [if_neg Wai]
  exact Uag ⟨σ1, H2, I2, q2⟩
end
structure It where
 go : Nat -> Hp -> Prop
 yld : Nat -> Hp -> V -> Hp -> Prop
 stop : Nat -> Hp -> Prop
def Zsv (X : Cx) (pins : List (Ve × Obj)) (H : Hp) (b : Ve) : Prop :=
 H b = none ∧ b ≠ X.env.locals ∧ b ∉ X.fs ∧ (b ∈ X.ex ∨ X.s₀.heap.objs.size ≤ b) ∧ (∀ x c, X.env.cells.lookup x = some c -> c ≠ b) ∧ ∀ p ∈ X.pn ++ pins, p.1 ≠ b
theorem Inv.fpOk {X : Cx} {pins : List (Ve × Obj)} {σ : St} {H H' : Hp} {s : Vd} {b : Ve} (I : Inv X pins σ H s) (hb : s.heap.objs.size ≤ b) (hn : H' b = none) : Zsv X pins H' b := by
 refine ⟨hn, Wbt (Xl I.lt hb), I.nofs hb, .inr (Xp I.sz hb), fun x c e z => ?_, fun p hp z => ?_⟩
 ·obtain ⟨v, q⟩ := I.cell x c e
  exact absurd (Xl q.lt (by rw [z]; exact hb)) (Wbd _)
 ·exact absurd (Xl (Xe (I.pin p hp).1) (by rw [z]; exact hb)) (Wbd _)
structure Turn (P : Vf) (w : Vk) (K : Xa) (tg : Vq) (J : It) (fp : List Ve) (it : Ve) (tn : Nat -> Vu -> Prop) : Prop where
 mem : it ∈ fp
 obj : ∀ i h, tn i h -> ∀ b ∈ fp, ∃ o, h.get? b = some o ∧ ∀ v, o.data ≠ .cell v
 keep : ∀ i h h', tn i h -> (∀ b ∈ fp, ∀ o, h.get? b = some o -> h'.get? b = some o) -> tn i h'
 item : ∀ (X : Cx), X.prog = P -> X.w = w -> X.K = K -> X.calm = true -> ∀ (i : Nat) (pins : List (Ve × Obj)) (s : Vd) (σ : St) (H : Hp) (E : Vb -> Vd -> Prop), Inv X pins σ H s -> (∀ b ∈ fp, Zsv X pins H b) -> tn i s.heap -> J.go i H →
  wpAny (model P w) X.A (pyNext (.ref it)) (fun r s1 => ∃ u, r = some u ∧
   wpAny (model P w) X.A (letOwnedTupleGo tg (.ref it) u) (fun _ s2 => ∃ x H', Inv X pins σ H' s2 ∧ Zca x u ∧ J.yld i H x H' ∧ tn (i + 1) s2.heap ∧ ∀ b ∈ fp, H' b = none) E s1) E s
 done : ∀ (X : Cx), X.prog = P -> X.w = w -> X.K = K -> X.calm = true -> ∀ (i : Nat) (pins : List (Ve × Obj)) (s : Vd) (σ : St) (H : Hp) (E : Vb -> Vd -> Prop), Inv X pins σ H s -> (∀ b ∈ fp, Zsv X pins H b) -> tn i s.heap -> J.stop i H →
  wpAny (model P w) X.A (pyNext (.ref it)) (fun r s1 => r = none ∧ Inv X pins σ H s1) E s
 self : ∀ (A : Vo) (i : Nat) (s : Vd) (Q : Vb -> Vd -> Prop) (E : Vb -> Vd -> Prop), tn i s.heap -> Q (.ref it) s -> wpAny (model P w) A (pyIter (.ref it)) Q E s
nonrec abbrev TI := St -> Hp -> (It -> Hp -> Prop) -> Prop
def PIE (X : Cx) (pins : List (Ve × Obj)) (σ : St) (tg : Vq) (R : It -> Hp -> Prop) (itv : Vb) (s2 : Vd) : Prop :=
 ∃ (it : Ve) (fp : List Ve) (tn : Nat -> Vu -> Prop) (J : It) (H' : Hp), itv = .ref it ∧ Inv X pins σ H' s2 ∧ Turn X.prog X.w X.K tg J fp it tn ∧ tn 0 s2.heap ∧ (∀ b ∈ fp, Zsv X pins H' b) ∧ R J H'
def PI (X : Cx) (tg iter : Vq) (wi : TI) : Prop :=
 ∀ (pins : List (Ve × Obj)) (s : Vd) (σ : St) (H : Hp) (R : It -> Hp -> Prop), Inv X pins σ H s -> wi σ H R →
  wpAny (model X.prog X.w) X.A (eval iter X.env) (fun v s1 => wpAny (model X.prog X.w) X.A (pyIter v) (PIE X pins σ tg R) X.xe s1) X.xe s
theorem Zy9 {M : Ucf} {A : Vo} {E : Vb -> Vd -> Prop} {s : Vd} {tg : Vq} {it : Ve} {u : Vb} {o : Obj} {n : String} {vs : Array Vb} {Q : Unit -> Vd -> Prop} (ho : s.heap.get? it = some o) (hc : o.cls = .type n) (hd : o.data = .fields vs)
  (hn : ["enumerate", "zip", "dict_itemiterator", "dict_reverseitemiterator", "odict_iterator", "itertools.zip_longest", "itertools.pairwise"].contains n = false) (hQ : Q () s) : wpAny M A (letOwnedTupleGo tg (.ref it) u) Q E s := by
 unfold letOwnedTupleGo
 cases tg <;> first
  | exact Vc hQ
  | (cases u <;> first
    | exact Vc hQ
    | (refine Va (wpAny_load ho ?_)
       rw [hc, hd]
       show wpAny M A (if (["enumerate", "zip", "dict_itemiterator", "dict_reverseitemiterator", "odict_iterator", "itertools.zip_longest", "itertools.pairwise"].contains n && vs[0]? == some (rawInt _)) = true then _ else _) Q E s
       rw [if_neg (by intro h; rw [hn, Wcb] at h; cases h)]
       exact Vc hQ))
nonrec def Itl (K : Xa) (a : Ve) : It :=
 ⟨fun i H => ∃ xs x, SqL K H a xs ∧ xs[i]? = some x, fun i H x H' => H' = H ∧ ∀ xs, SqL K H a xs -> xs[i]? = some x, fun i H => ∃ xs, SqL K H a xs ∧ xs.length ≤ i⟩
nonrec def Itt (K : Xa) (a : Ve) : It :=
 ⟨fun i H => ∃ xs x, SqT K H a xs ∧ xs[i]? = some x, fun i H x H' => H' = H ∧ ∀ xs, SqT K H a xs -> xs[i]? = some x, fun i H => ∃ xs, SqT K H a xs ∧ xs.length ≤ i⟩
nonrec def Itr (lo : Int) (n : Nat) : It := ⟨fun i _ => i < n, fun i H x H' => H' = H ∧ x = .int (lo + i), fun i _ => n ≤ i⟩
theorem Zqd {P : Vf} {w : Vk} {K : Xa} {tg : Vq} (a it : Ve) : Turn P w K tg (Itl K a) [it] it (fun i h => h.IsListIter it a i) where
 mem := by simp
 obj := fun i h st b hb => by
  have e : b = it := by simpa using hb
  subst e
  obtain ⟨o, e, c, d⟩ := st
  exact ⟨o, e, fun v z => by rw [d] at z; cases z⟩
 keep := fun i h h' st k => st.at fun o e => k it (by simp) o e
 item := by
  intro X hP hw hK hc i pins s σ H E I hf st hg
  subst hP hw hK
  obtain ⟨xs, x, hq, hx⟩ := hg
  obtain ⟨its, rv, p, hz⟩ := I.list hq
  obtain ⟨u, hu, ru⟩ := rv.get hx
  obtain ⟨f0, f1, f2, f3, f4, f5⟩ := hf it (by simp)
  refine wpAny_pyNext_list_item st p.isList (x := u) (by simpa using hu) fun h' st' sb => ?_
  have I1 : Inv X pins σ H { s with heap := h' } := I.turned (t' := s.toks) (fun b o hb e => (sb.2 b hb).trans e) f0 f1 f3 f4 f5
  obtain ⟨o, e, c, d⟩ := id st'
  exact ⟨u, rfl, Zy9 (s := { s with heap := h' }) e c d (by decide) ⟨x, H, I1, ru, ⟨rfl, fun ys hy => by rw [I.list_inj hy hq]; exact hx⟩, st', fun b hb => (hf b hb).1⟩⟩
 done := by
  intro X hP hw hK hc i pins s σ H E I hf st hg
  subst hP hw hK
  obtain ⟨xs, hq, hx⟩ := hg
  obtain ⟨its, rv, p, hz⟩ := I.list hq
  obtain ⟨f0, f1, f2, f3, f4, f5⟩ := hf it (by simp)
  have hl := rv.length
  exact wpAny_pyNext_list_end (I.ok.hd hc) st p.isList (by simp; omega) fun h' eb => ⟨rfl, I.turned (t' := s.toks) (fun b o hb e => eb b o hb e) f0 f1 f3 f4 f5⟩
 self := fun _ _ _ _ _ st h => wpAny_pyIter_listiter st h
theorem Zpf {P : Vf} {w : Vk} {K : Xa} {tg : Vq} (a it : Ve) : Turn P w K tg (Itt K a) [it] it (fun i h => h.IsTupleIter it a i) where
 mem := by simp
 obj := fun i h st b hb => by
  have e : b = it := by simpa using hb
  subst e
  obtain ⟨o, e, c, d⟩ := st
  exact ⟨o, e, fun v z => by rw [d] at z; cases z⟩
 keep := fun i h h' st k => st.at fun o e => k it (by simp) o e
 item := by
  intro X hP hw hK hc i pins s σ H E I hf st hg
  subst hP hw hK
  obtain ⟨xs, x, hq, hx⟩ := hg
  obtain ⟨its, rv, p, hz⟩ := I.tuple hq
  obtain ⟨u, hu, ru⟩ := rv.get hx
  obtain ⟨f0, f1, f2, f3, f4, f5⟩ := hf it (by simp)
  refine wpAny_pyNext_tuple_item st (show s.heap.IsTuple a its.toArray from p) (x := u) (by simpa using hu) fun h' st' sb => ?_
  have I1 : Inv X pins σ H { s with heap := h' } := I.turned (t' := s.toks) (fun b o hb e => (sb.2 b hb).trans e) f0 f1 f3 f4 f5
  obtain ⟨o, e, c, d⟩ := id st'
  exact ⟨u, rfl, Zy9 (s := { s with heap := h' }) e c d (by decide) ⟨x, H, I1, ru, ⟨rfl, fun ys hy => by rw [I.tuple_inj hy hq]; exact hx⟩, st', fun b hb => (hf b hb).1⟩⟩
 done := by
  intro X hP hw hK hc i pins s σ H E I hf st hg
  subst hP hw hK
  obtain ⟨xs, hq, hx⟩ := hg
  obtain ⟨its, rv, p, hz⟩ := I.tuple hq
  obtain ⟨f0, f1, f2, f3, f4, f5⟩ := hf it (by simp)
  have hl := rv.length
  exact wpAny_pyNext_tuple_end (I.ok.hd hc) st (show s.heap.IsTuple a its.toArray from p) (by simp; omega) fun h' eb => ⟨rfl, I.turned (t' := s.toks) (fun b o hb e => eb b o hb e) f0 f1 f3 f4 f5⟩
 self := fun _ _ _ _ _ st h => wpAny_pyIter_tupleiter st h
theorem Zpq {P : Vf} {w : Vk} {K : Xa} {tg : Vq} (it : Ve) (lo : Int) (n : Nat) : Turn P w K tg (Itr lo n) [it] it (fun i h => IsRangeIter h it (lo + (i : Nat) * 1) ((n : Int) - (i : Nat)) 1) where
 mem := by simp
 obj := fun i h st b hb => by
  have e : b = it := by simpa using hb
  subst e
  exact ⟨_, st, fun v z => by
   have z' : Data.fields _ = Data.cell v := z
   cases z'⟩
 keep := fun i h h' st k => k it (by simp) _ st
 item := by
  intro X hP hw hK hc i pins s σ H E I hf st hg
  subst hP hw hK
  obtain ⟨f0, f1, f2, f3, f4, f5⟩ := hf it (by simp)
  have W := Walks.range (prog := X.prog) (w := X.w) (I.ok.hd hc) it lo 1 n
  refine W.item i s _ _ hg st fun v h' tk hv st' kk => ?_
  obtain ⟨t, rfl⟩ := hv
  have I1 : Inv X pins σ H { s with heap := h', toks := tk } := I.turned (fun b o hb e => kk b o (by simpa using hb) e) f0 f1 f3 f4 f5
  refine ⟨_, rfl, Zy9 (s := { s with heap := h', toks := tk }) (n := "range_iterator") st' rfl rfl (by decide) ⟨.int (lo + i), H, I1, ⟨t, ?_⟩, ⟨rfl, rfl⟩, st', fun b hb => (hf b hb).1⟩⟩
  rw [Int.mul_one]
 done := by
  intro X hP hw hK hc i pins s σ H E I hf st hg
  subst hP hw hK
  obtain ⟨f0, f1, f2, f3, f4, f5⟩ := hf it (by simp)
  exact wpAny_pyNext_range_end (I.ok.hd hc) st (by have : n ≤ i := hg; omega) fun h' eb => ⟨rfl, I.turned (t' := s.toks) (fun b o hb e => eb b o hb e) f0 f1 f3 f4 f5⟩
 self := fun _ _ _ _ _ st h => wpAny_pyIter_rangeiter st h
section
variable {X : Cx} {tg : Vq}
theorem Zve {pins : List (Ve × Obj)} {σ : St} {H : Hp} {s : Vd} {R : It -> Hp -> Prop} {E : Vb -> Vd -> Prop} {lo hi : Int} {t u v : Tok} {tk : Nat} (I : Inv X pins σ H s) (h1 : -(2 ^ 62) ≤ lo) (h2 : lo < 2 ^ 62) (h3 : -(2 ^ 62) ≤ hi) (h4 : hi < 2 ^ 62)
  (q : R (Itr lo (hi - lo).toNat) H) : wpAny (model X.prog X.w) X.A (pyIter (.ref s.heap.objs.size)) (PIE X pins σ tg R) E { s with heap := s.heap.push { cls := .type "range", data := .fields #[.int lo t, .int hi u, .int 1 v] }, toks := tk } := by
 refine wpAny_pyIter_range (IsRange.new ..) (small_one h1 h2 h3 h4) ?_
 have I1 : Inv X pins σ H { s with heap := s.heap.push { cls := .type "range", data := .fields #[.int lo t, .int hi u, .int 1 v] }, toks := tk } := I.kept fun b o e => Xb _ e
 refine ⟨(s.heap.push { cls := .type "range", data := .fields #[.int lo t, .int hi u, .int 1 v] }).objs.size, [(s.heap.push { cls := .type "range", data := .fields #[.int lo t, .int hi u, .int 1 v] }).objs.size], _, _, H, rfl,
  I1.kept (t' := tk) fun b o e => Xb _ e, Zpq _ lo (hi - lo).toNat, ?_, fun b hb => ?_, q⟩
 ·have e1 : lo + ((0 : Nat) : Int) * 1 = lo := by simp
  have e2 : (((hi - lo).toNat : Nat) : Int) - ((0 : Nat) : Int) = Builtin.Range.rangeSize lo hi 1 := by rw [rangeSize_one]; split <;> omega
  show IsRangeIter _ _ (lo + ((0 : Nat) : Int) * 1) ((((hi - lo).toNat : Nat) : Int) - ((0 : Nat) : Int)) 1
  rw [e1, e2]
  exact Xf _ rfl
 ·have e : b = (s.heap.push { cls := .type "range", data := .fields #[.int lo t, .int hi u, .int 1 v] }).objs.size := by simpa using hb
  subst e
  exact I1.fpOk (Xc _) (I1.hok.fresh (Xc _))
nonrec def iRng1 (ta : TA) : TI := fun σ H R => ta σ H fun vs H1 => ∃ j : Int, vs = [.int j] ∧ -(2 ^ 62) ≤ j ∧ j < 2 ^ 62 ∧ R (Itr 0 j.toNat) H1
theorem Zqi {a : Vq} {ta : TA} {p pos : Pos} (hg : Gl X "range") (hm : X.mg "range" = none) (ha : PA X [a] ta) (hs : starEach [a] X.env = [(false, eval a X.env)] := by rfl) : PI X tg (.Call (.Name "range" p) [a] [] pos) (iRng1 ta) := by
 intro pins s σ H R I h
 refine Call_ (Zfh I hg hm boot_range (Uu (thn (ha pos pins s σ H _ I h) fun us s1 ⟨vs, H1, I1, r1, q1⟩ => ?_) hs rfl))
 obtain ⟨j, e, q1, q2, q⟩ := q1
 subst e
 cases r1 with
 | cons r rr =>
  cases rr
  obtain ⟨t, rfl⟩ := r
  exact call_range_1 (Zve I1 (by omega) (by omega) q1 q2 (by simpa using q))
nonrec def tFor (wi : TI) (g : TG) (tb : TS) : TS := fun D σ H => wi σ H fun J H1 => ∃ W : Nat -> Nat -> St -> Hp -> Prop, (∃ m, W 0 m σ H1) ∧ ∀ i m σ H, W i m σ H →
 (J.stop i H ∧ D.nx σ H) ∨ (J.go i H ∧ ∃ N : St -> Hp -> Prop, (∀ σ' H', N σ' H' -> ∃ m', m' < m ∧ W (i + 1) m' σ' H') ∧ ∀ x H', J.yld i H x H' -> g x σ H' fun σ2 H2 => tb { D with nx := N, ct := N, bk := D.nx } σ2 H2)
nonrec def Zlc (fp : List Ve) (h : Vu) : List (Ve × Obj) := fp.filterMap fun b => (h.get? b).map fun o => (b, o)
theorem Zfc {fp : List Ve} {h : Vu} {b : Ve} {o : Obj} (hb : b ∈ fp) (e : h.get? b = some o) : (b, o) ∈ Zlc fp h := Wbx.mpr ⟨b, hb, by rw [e]; rfl⟩
theorem Zrb {fp : List Ve} {h : Vu} {p : Ve × Obj} (hp : p ∈ Zlc fp h) : p.1 ∈ fp ∧ h.get? p.1 = some p.2 := by
 obtain ⟨b, hb, e⟩ := Wbx.mp hp
 cases q : h.get? b with
 | none => rw [q] at e; cases e
 | some o =>
  rw [q] at e
  have e' : (b, o) = p := Waa.inj e
  subst e'
  exact ⟨hb, q⟩
theorem Inv.pinned {pins : List (Ve × Obj)} {σ : St} {H : Hp} {s : Vd} {fp : List Ve} (I : Inv X pins σ H s) (hf : ∀ b ∈ fp, Zsv X pins H b) (ho : ∀ b ∈ fp, ∃ o, s.heap.get? b = some o ∧ ∀ v, o.data ≠ .cell v) : Inv X (pins ++ Zlc fp s.heap) σ H s :=
 I.pins_of fun p hp => (Xs.mp hp).elim (fun z => I.pin p (Wae _ z)) fun z => by
  obtain ⟨hb, e⟩ := Zrb z
  obtain ⟨f0, f1, f2, _⟩ := hf p.1 hb
  obtain ⟨o, e', d⟩ := ho p.1 hb
  rw [e] at e'; cases e'
  exact ⟨e, f0, f1, f2, d⟩
theorem Inv.unpinned {pins pl : List (Ve × Obj)} {σ : St} {H : Hp} {s : Vd} (I : Inv X (pins ++ pl) σ H s) : Inv X pins σ H s := I.pins_of fun p hp => I.pin p (Wae _ (Wal _ hp))
theorem Zwn {iter : Vq} {body : List Vw} {wi : TI} {g : TG} {tb : TS} {pos : Pos} (hp : Ubb (model X.prog X.w) X.A X.env X.xe) (hc : X.calm = true) (hi : PI X tg iter wi) (hg : PG X tg g) (hb : PSs X body tb)
  (hs : ∀ x, foldedSetIterable iter X.env x = pure x := by intro _; rfl) : PS X (.For tg iter body [] pos) (tFor wi g tb) := by
 intro pins s σ H D I h
 refine wpAny_For (thn (hi pins s σ H _ I h) fun v s1 h1 => thn h1 fun itv s2 h2 => ?_) hs
 obtain ⟨it, fp, tn, J, H2, e, I2, T, st2, f2, W, ⟨m0, w0⟩, turn⟩ := h2
 subst e
 -- what stays true of the iterator's objects through the loop
 have stat : ∀ {H' : Hp}, (∀ b ∈ fp, H' b = none) -> ∀ b ∈ fp, Zsv X pins H' b := fun hn b hb => ⟨hn b hb, (f2 b hb).2⟩
 refine codeAny_forLoop_any (fun n s' => ∃ i σ' H', Inv X pins σ' H' s' ∧ tn i s'.heap ∧ (∀ b ∈ fp, H' b = none) ∧ W i n σ' H') ?_ m0 ⟨0, σ, H2, I2, st2, fun b hb => (f2 b hb).1, w0⟩
 rintro n s3 ⟨i, σ3, H3, I3, st3, fr3, w3⟩
 rcases turn i n σ3 H3 w3 with ⟨stop, qn⟩ | ⟨go, N, hN, step⟩
 ·refine Uac hp (thn (T.done X rfl rfl rfl hc i pins s3 σ3 H3 X.xe I3 (stat fr3) st3 stop) fun r s4 zz => ?_)
  obtain ⟨hr, I4⟩ := zz
  subst hr
  exact Uag ⟨σ3, H3, I4, qn⟩
 ·refine Uac hp (thn (T.item X rfl rfl rfl hc i pins s3 σ3 H3 X.xe I3 (stat fr3) st3 go) fun r s4 zz => ?_)
  obtain ⟨u, hr, h4⟩ := zz
  subst hr
  refine Uac hp (thn h4 fun _ s5 zz => ?_)
  obtain ⟨x, H5, I5, r5, y5, st5, fr5⟩ := zz
  have I5' := I5.pinned (stat fr5) (T.obj _ _ st5)
  refine Uac hp (thn (hg _ s5 σ3 H5 x u _ I5' r5 (step x H5 y5)) fun _ s6 zz => ?_)
  obtain ⟨σ6, H6, I6, q6⟩ := zz
  refine Uac hp (thn (hb _ s6 σ6 H6 _ I6 q6) fun f s7 q7 => ?_)
  have again : ∀ {σ7 : St} {H7 : Hp}, Inv X (pins ++ Zlc fp s5.heap) σ7 H7 s7 -> N σ7 H7 -> ∃ m, m < n ∧ ∃ i σ' H', Inv X pins σ' H' s7 ∧ tn i s7.heap ∧ (∀ b ∈ fp, H' b = none) ∧ W i m σ' H' := fun {σ7 H7} I7 n7 => by
   obtain ⟨m', hm, w7⟩ := hN σ7 H7 n7
   refine ⟨m', hm, i + 1, σ7, H7, I7.unpinned, T.keep _ _ _ st5 fun b hb o e => (I7.pin (b, o) (Wae _ (Wae _ (Zfc hb e)))).1, fun b hb => ?_, w7⟩
   obtain ⟨o, e, d⟩ := T.obj _ _ st5 b hb
   exact (I7.pin (b, o) (Wae _ (Wae _ (Zfc hb e)))).2.1
  cases f with
  | next => obtain ⟨σ7, H7, I7, n7⟩ := q7; exact again I7 n7
  | cont => obtain ⟨σ7, H7, I7, n7⟩ := q7; exact again I7 n7
  | brk => obtain ⟨σ7, H7, I7, q7⟩ := q7; exact ⟨σ7, H7, I7.unpinned, q7⟩
  | ret v => obtain ⟨x7, σ7, H7, I7, r7, q7⟩ := q7; exact ⟨x7, σ7, H7, I7.unpinned, r7, q7⟩
end
nonrec abbrev R2 := V -> V -> Hp -> VK -> Prop
def OpR (X : Cx) (f : Vb -> Vb -> Sem Vb) (r : R2) : Prop :=
 ∀ (pins : List (Ve × Obj)) (s : Vd) (σ : St) (H : Hp) (x y : V) (v u : Vb) (Q : VK), Inv X pins σ H s -> Zca x v -> Zca y u -> r x y H Q →
  wpAny (model X.prog X.w) X.A (f v u) (EP X pins σ Q) X.xe s
def UnR (X : Cx) (f : Vb -> Sem Vb) (r : V -> Hp -> VK -> Prop) : Prop :=
 ∀ (pins : List (Ve × Obj)) (s : Vd) (σ : St) (H : Hp) (x : V) (v : Vb) (Q : VK), Inv X pins σ H s -> Zca x v -> r x H Q →
  wpAny (model X.prog X.w) X.A (f v) (EP X pins σ Q) X.xe s
def Zhj (X : Cx) (f : Vb) (r : List V -> Hp -> VK -> Prop) : Prop :=
 ∀ (pins : List (Ve × Obj)) (s : Vd) (σ : St) (H : Hp) (xs : List V) (us : List Vb) (Q : VK), Inv X pins σ H s -> Zbp xs us -> r xs H Q →
  wpAny (model X.prog X.w) X.A (call f us) (EP X pins σ Q) X.xe s
def TruR (X : Cx) (r : V -> Hp -> (Bool -> Hp -> Prop) -> Prop) : Prop :=
 ∀ (pins : List (Ve × Obj)) (s : Vd) (σ : St) (H : Hp) (x : V) (v : Vb) (Q : Bool -> Hp -> Prop), Inv X pins σ H s -> Zca x v -> r x H Q →
  wpAny (model X.prog X.w) X.A (truthy v) (TP X pins σ Q) X.xe s
nonrec def tOp (r : R2) (ta tb : TE) : TE := fun σ H Q => ta σ H fun x H1 => tb σ H1 fun y H2 => r x y H2 Q
nonrec def tUn (r : V -> Hp -> VK -> Prop) (ta : TE) : TE := fun σ H Q => ta σ H fun x H1 => r x H1 Q
nonrec def rI (C : Int -> Int -> Prop) (g : Int -> Int -> V) : R2 := fun x y H Q => ∃ i j, x = .int i ∧ y = .int j ∧ C i j ∧ Q (g i j) H
nonrec def rI0 (g : Int -> Int -> V) : R2 := fun x y H Q => ∃ i j, x = .int i ∧ y = .int j ∧ Q (g i j) H
nonrec def rU (g : Int -> V) : V -> Hp -> VK -> Prop := fun x H Q => ∃ i, x = .int i ∧ Q (g i) H
section
variable {X : Cx} {a b c : Vq} {ta tb tc : TE} {pos : Pos}
theorem binT (ha : PE X a ta) (hb : PE X b tb) {pins : List (Ve × Obj)} {s : Vd} {σ : St} {H : Hp} {R : V -> V -> Hp -> Prop} (I : Inv X pins σ H s)
  (h : ta σ H fun x H1 => tb σ H1 fun y H2 => R x y H2) {Q : Vb -> Vd -> Prop} {f : Vb -> Vb -> Sem Vb}
  (hf : ∀ v u s2 x y H2, Inv X pins σ H2 s2 -> Zca x v -> Zca y u -> R x y H2 -> wpAny (model X.prog X.w) X.A (f v u) Q X.xe s2) :
  wpAny (model X.prog X.w) X.A (eval a X.env) (fun v s₁ => wpAny (model X.prog X.w) X.A (eval b X.env) (fun u s₂ => wpAny (model X.prog X.w) X.A (f v u) Q X.xe s₂) X.xe s₁) X.xe s := by
 refine thn (ha pins s σ H _ I h) fun v s1 zz => ?_
 obtain ⟨x, H1, I1, r1, q1⟩ := zz
 refine thn (hb pins s1 σ H1 _ I1 q1) fun u s2 zz => ?_
 obtain ⟨y, H2, I2, r2, q2⟩ := zz
 exact hf v u s2 x y H2 I2 r1 r2 q2
theorem Yci {op : Ubw} {r : R2} (ho : OpR X (binaryOp op) r) (ha : PE X a ta) (hb : PE X b tb) : PE X (.BinOp a op b pos) (tOp r ta tb) := by
 intro pins s σ H Q I h
 exact wpAny_BinOp (binT ha hb I h fun v u s2 x y H2 I2 rx ry q => ho pins s2 σ H2 x y v u Q I2 rx ry q)
theorem pe_un {op : UnaryOp} {r : V -> Hp -> VK -> Prop} (ho : UnR X (unaryOp op) r) (ha : PE X a ta) : PE X (.UnaryOp op a pos) (tUn r ta) := by
 intro pins s σ H Q I h
 exact UnaryOp_ (thn (ha pins s σ H _ I h) fun v s1 ⟨x, H1, I1, r1, q1⟩ => ho pins s1 σ H1 x v Q I1 r1 q1)
theorem opI {f : Vb -> Vb -> Sem Vb} {C : Int -> Int -> Prop} {g : Int -> Int -> Int}
  (rule : ∀ (i j : Int) (t u : Tok) (s : Vd) (Q : Vb -> Vd -> Prop) (E : Vb -> Vd -> Prop), C i j -> Q (.int (g i j) s.toks) { s with toks := s.toks + 1 } -> wpAny (model X.prog X.w) X.A (f (.int i t) (.int j u)) Q E s) :
  OpR X f (rI C fun i j => .int (g i j)) := by
 intro pins s σ H x y v u Q I rx ry h
 obtain ⟨i, j, rfl, rfl, hc, q⟩ := h
 obtain ⟨t, rfl⟩ := rx
 obtain ⟨t', rfl⟩ := ry
 exact rule i j t t' s _ _ hc ⟨.int (g i j), H, I.tok _, ⟨_, rfl⟩, q⟩
theorem opI0 {f : Vb -> Vb -> Sem Vb} {g : Int -> Int -> Int}
  (rule : ∀ (i j : Int) (t u : Tok) (s : Vd) (Q : Vb -> Vd -> Prop) (E : Vb -> Vd -> Prop), Q (.int (g i j) s.toks) { s with toks := s.toks + 1 } -> wpAny (model X.prog X.w) X.A (f (.int i t) (.int j u)) Q E s) :
  OpR X f (rI0 fun i j => .int (g i j)) := by
 intro pins s σ H x y v u Q I rx ry h
 obtain ⟨i, j, rfl, rfl, q⟩ := h
 obtain ⟨t, rfl⟩ := rx
 obtain ⟨t', rfl⟩ := ry
 exact rule i j t t' s _ _ ⟨.int (g i j), H, I.tok _, ⟨_, rfl⟩, q⟩
theorem opB0 {f : Vb -> Vb -> Sem Vb} {g : Int -> Int -> Bool}
  (rule : ∀ (i j : Int) (t u : Tok) (s : Vd) (Q : Vb -> Vd -> Prop) (E : Vb -> Vd -> Prop), Q (.bool (g i j)) s -> wpAny (model X.prog X.w) X.A (f (.int i t) (.int j u)) Q E s) :
  OpR X f (rI0 fun i j => .bl (g i j)) := by
 intro pins s σ H x y v u Q I rx ry h
 obtain ⟨i, j, rfl, rfl, q⟩ := h
 obtain ⟨t, rfl⟩ := rx
 obtain ⟨t', rfl⟩ := ry
 exact rule i j t t' s _ _ ⟨.bl (g i j), H, I, rfl, q⟩
def Yaj (i j : Int) : Prop := 0 < j ∧ j < 1073741824
def Yar (i j : Int) : Prop := 0 ≤ j ∧ j ≤ 1000000 ∧ i.natAbs < 2 ^ 64
def Zv9 (i j : Int) : Prop := (-(2 ^ 64) < i ∧ i < 2 ^ 64) ∨ (-(2 ^ 64) < j ∧ j < 2 ^ 64)
theorem Zv9.ok {i j : Int} (h : Zv9 i j) : IntMulOk i j := by
 rcases h with ⟨h1, h2⟩ | ⟨h1, h2⟩
 ·exact .of_left (intBits_le_64 h1 h2)
 ·exact .of_right (intBits_le_64 h1 h2)
theorem Yb9 : OpR X (binaryOp .Add) (rI0 fun i j => .int (i + j)) := opI0 fun _ _ _ _ _ _ _ q => add_int q
theorem Ybm : OpR X (binaryOp .Sub) (rI0 fun i j => .int (i - j)) := opI0 fun _ _ _ _ _ _ _ q => sub_int q
theorem Yb6 : OpR X (binaryOp .Mult) (rI Zv9 fun i j => .int (i * j)) := opI fun _ _ _ _ _ _ _ hc q => mul_int q hc.ok
theorem Zx9 : OpR X (binaryOp .FloorDiv) (rI Yaj fun i j => .int (i / j)) := opI fun i j _ _ _ _ _ hc q => by
 have h1 : (0 : Int) < j := hc.1
 have h2 : j < 1073741824 := hc.2
 exact floordiv_int (by omega) (by rw [Int.fdiv_eq_ediv_of_nonneg i (by omega)]; exact q) (.inl (PyProof.noPylong_small (by omega)))
theorem Ycn : OpR X (binaryOp .Mod) (rI (fun _ j => 0 < j) fun i j => .int (i % j)) := opI fun i j _ _ _ _ _ hc q => by
 have h1 : (0 : Int) < j := hc
 exact mod_int' (by omega) (by rw [Int.fmod_eq_emod_of_nonneg i (by omega)]; exact q)
theorem Zzu : OpR X (binaryOp .Pow) (rI Yar fun i j => .int (i ^ j.toNat)) := opI fun _ _ _ _ _ _ _ hc q => pow_int_small hc.1 hc.2.1 hc.2.2 q
theorem unI {f : Vb -> Sem Vb} {g : Int -> Int}
  (rule : ∀ (i : Int) (t : Tok) (s : Vd) (Q : Vb -> Vd -> Prop) (E : Vb -> Vd -> Prop), Q (.int (g i) s.toks) { s with toks := s.toks + 1 } -> wpAny (model X.prog X.w) X.A (f (.int i t)) Q E s) :
  UnR X f (rU fun i => .int (g i)) := by
 intro pins s σ H x v Q I rx h
 obtain ⟨i, rfl, q⟩ := h
 obtain ⟨t, rfl⟩ := rx
 exact rule i t s _ _ ⟨.int (g i), H, I.tok _, ⟨_, rfl⟩, q⟩
theorem Yap : UnR X (unaryOp .USub) (rU fun i => .int (-i)) := unI fun _ _ _ _ _ q => neg_int q
end
section
variable {X : Cx} {a b c : Vq} {ta tb tc : TE} {pos : Pos}
theorem op_lt : OpR X (compareOp .Lt) (rI0 fun i j => .bl (decide (i < j))) := opB0 fun _ _ _ _ _ _ _ q => lt_int q
theorem op_le : OpR X (compareOp .LtE) (rI0 fun i j => .bl (decide (i ≤ j))) := opB0 fun _ _ _ _ _ _ _ q => le_int q
theorem op_gt : OpR X (compareOp .Gt) (rI0 fun i j => .bl (decide (j < i))) := opB0 fun _ _ _ _ _ _ _ q => gt_int q
theorem op_ge : OpR X (compareOp .GtE) (rI0 fun i j => .bl (decide (j ≤ i))) := opB0 fun _ _ _ _ _ _ _ q => ge_int q
theorem Zar (b : Vq) {op : CmpOp} (h : op ≠ .In := by decide) (h2 : op ≠ .NotIn := by decide) : behindInMarks op b = false := by
 have e1 : (op == CmpOp.In) = false := by cases op <;> first | rfl | exact absurd rfl h
 have e2 : (op == CmpOp.NotIn) = false := by cases op <;> first | rfl | exact absurd rfl h2
 cases b <;> simp [behindInMarks, e1, e2]
theorem Zy8 {op : CmpOp} {r : R2} (ho : OpR X (compareOp op) r) (ha : PE X a ta) (hb : PE X b tb) (hm : behindInMarks op b = false) : PE X (.Compare a [op] [b] pos) (tOp r ta tb) := by
 intro pins s σ H Q I h
 exact wpAny_Compare1 (binT ha hb I h fun v u s2 x y H2 I2 rx ry q => ho pins s2 σ H2 x y v u Q I2 rx ry q) hm
nonrec def Zz2 (t : TE) : TT := fun σ H Q => t σ H fun x H' => ∃ k, x = .bl k ∧ Q k H'
theorem Zw2 {op : CmpOp} {r : R2} (ho : OpR X (compareOp op) r) (ha : PE X a ta) (hb : PE X b tb) (hm : behindInMarks op b = false) : PT X (.Compare a [op] [b] pos) (Zz2 (tOp r ta tb)) := by
 intro pins s σ H Q I h
 refine wpAny_isTrue_Compare1 (thn (ha pins s σ H _ I h) fun v s1 ⟨x, H1, I1, r1, q1⟩ => thn (hb pins s1 σ H1 _ I1 q1) fun u s2 ⟨y, H2, I2, r2, q2⟩ =>
  thn (ho pins s2 σ H2 x y v u _ I2 r1 r2 q2) fun c s3 ⟨z, H3, I3, r3, k, e, q3⟩ => ?_) hm
 subst e
 cases r3
 exact Vv ⟨H3, I3, q3⟩
nonrec def Zse (r r' : R2) (ta tb tc : TE) : TE := fun σ H Q => ta σ H fun x H1 => tb σ H1 fun y H2 => r x y H2 fun z H3 => ∃ k, z = .bl k ∧
 (if k = true then tc σ H3 fun w' H4 => r' y w' H4 Q else Q (.bl false) H3)
theorem Zul {op op' : CmpOp} {r r' : R2} (ho : OpR X (compareOp op) r) (ho' : OpR X (compareOp op') r') (ha : PE X a ta) (hb : PE X b tb) (hc : PE X c tc)
  (hm : lastMarks [op, op'] [b, c] = false := by with_unfolding_all rfl) : PE X (.Compare a [op, op'] [b, c] pos) (Zse r r' ta tb tc) := by
 intro pins s σ H Q I h
 refine Compare_chain (thn (ha pins s σ H _ I h) fun v s1 ⟨x, H1, I1, r1, q1⟩ => chain_link (thn (hb pins s1 σ H1 _ I1 q1) fun u s2 ⟨y, H2, I2, r2, q2⟩ =>
  thn (ho pins s2 σ H2 x y v u _ I2 r1 r2 q2) fun d s3 ⟨z, H3, I3, r3, k, e, q3⟩ => ?_)) hm
 subst e
 cases r3
 refine Vv ?_
 cases k with
 | false => exact ite_ff ⟨.bl false, H3, I3, rfl, q3⟩
 | true => exact ite_tt (chain_last (thn (hc pins s3 σ H3 _ I3 q3) fun w' s4 ⟨z', H4, I4, r4, q4⟩ => ho' pins s4 σ H4 y z' u w' Q I4 r2 r4 q4))
theorem Zut {op op' : CmpOp} {r r' : R2} (ho : OpR X (compareOp op) r) (ho' : OpR X (compareOp op') r') (ha : PE X a ta) (hb : PE X b tb) (hc : PE X c tc)
  (hm : lastMarks [op, op'] [b, c] = false := by with_unfolding_all rfl) : PT X (.Compare a [op, op'] [b, c] pos) (Zz2 (Zse r r' ta tb tc)) := by
 intro pins s σ H Q I h
 refine isTrue_chain (thn (ha pins s σ H _ I h) fun v s1 ⟨x, H1, I1, r1, q1⟩ => test_link (thn (hb pins s1 σ H1 _ I1 q1) fun u s2 ⟨y, H2, I2, r2, q2⟩ =>
  thn (ho pins s2 σ H2 x y v u _ I2 r1 r2 q2) fun d s3 ⟨z, H3, I3, r3, k, e, q3⟩ => ?_)) hm
 subst e
 cases r3
 refine Vv ?_
 cases k with
 | false =>
  obtain ⟨k', e', q'⟩ := q3
  cases e'
  exact ite_ff ⟨H3, I3, q'⟩
 | true =>
  refine ite_tt (test_last (thn (hc pins s3 σ H3 _ I3 q3) fun w' s4 ⟨z', H4, I4, r4, q4⟩ => thn (ho' pins s4 σ H4 y z' u w' _ I4 r2 r4 q4) fun d' s5 zz => ?_))
  obtain ⟨z2, H5, I5, r5, k2, e2, q5⟩ := zz
  subst e2
  cases r5
  exact Vv ⟨H5, I5, q5⟩
def TruV (K : Xa) (x : V) (H : Hp) (k : Bool) : Prop :=
 match x with
 | .non => k = false
 | .bl b => k = b
 | .int i => k = (i != 0)
 | .str y => y.length ≤ sizeLine ∧ k = ((y.length : Int) != 0)
 | .byt y => y.size ≤ sizeLine ∧ k = ((y.size : Int) != 0)
 | .ref p => (∃ xs, SqL K H p xs ∧ k = !xs.isEmpty) ∨ (∃ xs, SqT K H p xs ∧ k = !xs.isEmpty) ∨ ∃ kvs, H p = some (.dK kvs) ∧ k = !kvs.isEmpty
 | _ => False
theorem Zoy {κ : Type} {kvs : List (κ × V)} {vs : List (κ × Vb)} (r : KV kvs vs) : (!vs.isEmpty) = !kvs.isEmpty := by
 cases r <;> rfl
theorem Zjl {xs : List V} {its : List Vb} (r : Zbp xs its) : (!its.toArray.isEmpty) = !xs.isEmpty := by
 cases r <;> simp
theorem Zle : (sizeLine : Nat) < 2 ^ 63 := by rw [Uae]; decide
theorem Yb1 : TruR X (fun x H Q => ∃ k, TruV X.K x H k ∧ Q k H) := by
 intro pins s σ H x v Q I rx h
 obtain ⟨k, e, q⟩ := h
 have hl := Zle
 have hs : sizeLine = 16777216 := Uae
 cases x with
 | non =>
  cases rx
  have e' : k = false := e
  subst e'
  exact truthy_none ⟨H, I, q⟩
 | bl b =>
  cases rx
  have e' : k = b := e
  subst e'
  exact Vv ⟨H, I, q⟩
 | int i =>
  obtain ⟨t, rfl⟩ := rx
  have e' : k = (i != 0) := e
  subst e'
  exact PySem.P.truthy_int ⟨H, I, q⟩
 | str y =>
  obtain ⟨t, rfl⟩ := rx
  obtain ⟨hy, e'⟩ : y.length ≤ sizeLine ∧ k = ((y.length : Int) != 0) := e
  subst e'
  exact PySem.P.truthy_str (by omega) ⟨H, I.tok _, q⟩
 | byt y =>
  obtain ⟨t, rfl⟩ := rx
  obtain ⟨hy, e'⟩ : y.size ≤ sizeLine ∧ k = ((y.size : Int) != 0) := e
  subst e'
  exact PySem.W.truthy_bytes (by omega) ⟨H, I.tok _, q⟩
 | ref p =>
  cases rx
  have e' : (∃ xs, SqL X.K H p xs ∧ k = !xs.isEmpty) ∨ (∃ xs, SqT X.K H p xs ∧ k = !xs.isEmpty) ∨ ∃ kvs, H p = some (.dK kvs) ∧ k = !kvs.isEmpty := e
  rcases e' with ⟨xs, hx, e'⟩ | ⟨xs, hx, e'⟩ | ⟨kvs, hx, e'⟩
  ·subst e'
   obtain ⟨its, r, pl, hz⟩ := I.list hx
   have hlen := r.length
   exact wpAny_truthy_list pl.isList (by simp only [Xi]; omega) ⟨H, I.tok _, by rw [Zjl r]; exact q⟩
  ·subst e'
   obtain ⟨its, r, pl, hz⟩ := I.tuple hx
   have hlen := r.length
   exact truthy_tuple pl (by simp only [Xi]; omega) ⟨H, I.tok _, by rw [Zjl r]; exact q⟩
  ·subst e'
   obtain ⟨hz, hS, vs, r, m⟩ : kvs.length ≤ sizeLine ∧ (p == sysModules) = false ∧ ∃ vs, KV kvs vs ∧ s.heap.DictOf (Zni X.prog X.w) p vs := I.hok p _ hx
   have hlen : kvs.length = vs.length := Paired.length r
   exact wpAny_truthy_dict hS m (by omega) ⟨H, I.tok _, by rw [Zoy r]; exact q⟩
 | _ => exact (show False from e).elim
theorem Zt2 (ha : PE X a ta) (he : ∀ whole, isTrue a X.env whole = (do let v ← whole; standAt a.pos; holding [v] (truthy v))) :
  PT X a (fun σ H Q => ta σ H fun x H' => ∃ k, TruV X.K x H' k ∧ Q k H') := by
 intro pins s σ H Q I h
 exact isTrue_plain (thn (ha pins s σ H _ I h) fun v s1 ⟨x, H1, I1, r1, q1⟩ => Yb1 pins s1 σ H1 x v Q I1 r1 q1) (he _)
theorem Zpw : OpR X (binaryOp .Add) (fun x y H Q => ∃ i j, x = .str i ∧ y = .str j ∧ i.length + j.length ≤ sizeLine ∧ Q (.str (i ++ j)) H) := by
 intro pins s σ H x y v u Q I rx ry h
 obtain ⟨i, j, rfl, rfl, hz, q⟩ := h
 obtain ⟨t, rfl⟩ := rx
 obtain ⟨t', rfl⟩ := ry
 exact add_str (fun t' tk => ⟨.str (i ++ j), H, I.tok _, ⟨_, rfl⟩, q⟩) hz
theorem Zhl {x : V} {us : List Vb} (r : Zbp [x] us) : ∃ u, us = [u] ∧ Zca x u := by
 cases r with
 | cons r1 r2 => cases r2; exact ⟨_, rfl, r1⟩
theorem Zqt {x y : V} {us : List Vb} (r : Zbp [x, y] us) : ∃ u w', us = [u, w'] ∧ Zca x u ∧ Zca y w' := by
 cases r with
 | cons r1 r2 =>
  cases r2 with
  | cons r3 r4 => cases r4; exact ⟨_, _, rfl, r1, r3⟩
theorem Zu6 : Zhj X (.builtin "abs") (fun xs H Q => ∃ i, xs = [.int i] ∧ Q (.int (if i < 0 then -i else i)) H) := by
 intro pins s σ H xs us Q I r h
 obtain ⟨i, rfl, q⟩ := h
 obtain ⟨u, rfl, t, rfl⟩ := Zhl r
 exact Ucb fun u tk => ⟨.int (if i < 0 then -i else i), H, I.tok _, ⟨_, rfl⟩, q⟩
theorem Zs4 (hc : X.calm = true) : Zhj X (.builtin "max") (fun xs H Q => ∃ i j, xs = [.int i, .int j] ∧ Q (.int (if j > i then j else i)) H) := by
 intro pins s σ H xs us Q I r h
 obtain ⟨i, j, rfl, q⟩ := h
 obtain ⟨u, w', rfl, ⟨t, rfl⟩, ⟨t', rfl⟩⟩ := Zqt r
 refine max_two_ints (I.ok.hd hc) fun h' tk k => ⟨_, H, I.kept k, ?_, q⟩
 by_cases hj : j > i
 ·rw [if_pos hj, if_pos hj]; exact ⟨_, rfl⟩
 ·rw [if_neg hj, if_neg hj]; exact ⟨_, rfl⟩
theorem Zlo : Zhj X (.type "int") (fun xs H Q => (∃ i, xs = [.int i] ∧ Q (.int i) H) ∨ ∃ k, xs = [.bl k] ∧ Q (.int (if k then 1 else 0)) H) := by
 intro pins s σ H xs us Q I r h
 rcases h with ⟨i, rfl, q⟩ | ⟨k, rfl, q⟩
 ·obtain ⟨u, rfl, t, rfl⟩ := Zhl r
  exact call_int_int ⟨.int i, H, I, ⟨_, rfl⟩, q⟩
 ·obtain ⟨u, rfl, r1⟩ := Zhl r
  cases r1
  exact call_int_bool ⟨.int (if k then 1 else 0), H, I.tok _, ⟨_, rfl⟩, q⟩
end
theorem Zta {h : Vu} {dx : Ve} {mA : Str -> Option Vb} (n : h.Ns1 dx mA) : ∃ od, h.get? dx = some od ∧ ∀ name, Wfk name od = some (mA name) := by
 obtain ⟨o, es, ep, ho, hd, hk, _, hm⟩ := n
 refine ⟨o, ho, fun name => ?_⟩
 have e := hm name
 unfold nsFind findBy at e
 rw [← Array.find?_toList] at e
 unfold Wfk
 rw [hd]
 dsimp only
 split
 ·rename_i y q
  rw [q] at e
  exact congrArg some e
 ·rename_i q
  rw [q] at e
  have a : es.toList.any (·.refKey) = false := by
   rw [Wbz]
   intro y hy
   obtain ⟨z, t, hkey⟩ := hk y (Array.mem_toList_iff.mp hy)
   simp [DictEntry.refKey, hkey]
  have a' : ¬ es.toList.any (·.refKey) = true := by rw [a]; exact Wai
  rw [if_neg a']
  exact congrArg some e
section
variable {X : Cx} {pins : List (Ve × Obj)} {σ : St} {H : Hp} {s : Vd} {a C dx : Ve} {fs : List (Str × V)} {f : Str} {v : V} {A : Vo} {E : Vb -> Vd -> Prop}
theorem Zx1 {prog : Vf} {w : Vk} {env : Env} {e : Vq} {f : Str} {pos : Pos} {s : Vd} {Q : Vb -> Vd -> Prop} (hb : attributeBase e f env (eval e env) = eval e env)
  (h : wpAny (model prog w) A (eval e env) (fun o s₁ => wpAny (model prog w) A (getAttr o f true) Q E s₁) E s) : wpAny (model prog w) A (eval (.Attribute e f pos) env) Q E s :=
 Attribute_any_ h (by rw [arm_eval_Attribute, hb])
end
structure Room (k : Nat) (A : Vo) : Prop where
 hd : A.handled = none
 dp : A.depth + 3 * k + 5 < recursionLimit
 un : A.units + 16 * k + 200 < cLine
 gd : A.guards = some []
theorem Room.mono {j k : Nat} {A : Vo} (r : Room k A) (h : j ≤ k) : Room j A := ⟨r.hd, by have := r.dp; omega, by have := r.un; omega, r.gd⟩
theorem Room.deeper {k : Nat} {A : Vo} (r : Room (k + 1) A) (env : Env) : Room k (A.deeper env) :=
 ⟨r.hd, by have := r.dp; show A.depth + 1 + 3 * k + 5 < _; omega, by have := r.un; show A.units + 3 + 16 * k + 200 < _; omega, r.gd⟩
theorem Zo4 {A : Vo} {C : Ve} {us : List Vb} {kw : List (Str × Vb)} : (A.under (.builtin "type.__call__" ⟨.ref C :: us, kw⟩)).depth = A.depth + 1 := by
 first | rfl | simp [Around.under, Code.weight, Code.isCreation, Code.isGuard, Code.isCaller, Code.frames, Tcf, guardIds]
theorem Zpx {A : Vo} {C : Ve} {us : List Vb} {kw : List (Str × Vb)} : (A.under (.builtin "type.__call__" ⟨.ref C :: us, kw⟩)).units = A.units + 1 := by
 first | rfl | simp [Around.under, Code.cUnits, Code.frames, Tcf]
theorem Room.make {k : Nat} {A : Vo} (r : Room (k + 1) A) (C : Ve) (us : List Vb) (kw : List (Str × Vb)) : Room k (A.under (.builtin "type.__call__" ⟨.ref C :: us, kw⟩)) :=
 ⟨r.hd, by have := r.dp; rw [Zo4]; omega, by have := r.un; rw [Zpx]; omega, by first | exact r.gd | (simpa [Around.under, Code.guards, Code.isGuard, guardIds, pushGuards] using r.gd)⟩
theorem Room.depth {k : Nat} {A : Vo} (r : Room k A) : A.depth < recursionLimit := by have := r.dp; omega
theorem Room.units {k : Nat} {A : Vo} (r : Room k A) : A.units + 64 < cLine := by have := r.un; omega
nonrec def tNil : TA := fun _ H Q => Q [] H
nonrec def tCons (ta : TE) (tr : TA) : TA := fun σ H Q => ta σ H fun x H1 => tr σ H1 fun xs H2 => Q (x :: xs) H2
section
variable {X : Cx} {e : Vq} {es : List Vq} {te : TE} {t : TA} {pos : Pos}
theorem Zjj : PA X [] tNil := fun _ _ _ _ H Q I h => Calls.spliced_nil ⟨[], H, I, .nil, h⟩
theorem Zcz (ha : PE X e te) (hr : PA X es t) (hs : starEach (e :: es) X.env = (false, eval e X.env) :: starEach es X.env := by rfl) : PA X (e :: es) (tCons te t) := by
 intro pos pins s σ H Q I h
 rw [hs]
 show wpAny _ _ (spliced ((false, eval e X.env) :: backTo pos (starEach es X.env))) _ _ s
 refine Calls.spliced_cons (thn (ha pins s σ H _ I h) fun u s1 zz => ?_)
 obtain ⟨x, H1, I1, r1, q1⟩ := zz
 exact thn (hr pos pins s1 σ H1 _ I1 q1) fun us s2 ⟨xs, H2, I2, r2, q2⟩ => ⟨x :: xs, H2, I2, .cons r1 r2, q2⟩
nonrec def tTup (t : TA) : TE := fun σ H Q => t σ H fun xs H1 => xs.length ≤ sizeLine ∧ ∀ p, H1 p = none -> Q (.ref p) (upd H1 p (.tup xs))
nonrec def tLst (t : TA) : TE := fun σ H Q => t σ H fun xs H1 => xs.length ≤ sizeLine ∧ ∀ p, H1 p = none -> Q (.ref p) (upd H1 p (.lst xs))
theorem Zwi {x1} (h : PA X es t) : PE X (.Tuple es x1 pos) (tTup t) := by
 intro pins s σ H Q I hq
 refine wpAny_Tuple_spliced (thn (h pos pins s σ H _ I hq) fun us s1 ⟨xs, H1, I1, r, z, q⟩ => ⟨by rw [← r.length]; exact z, ?_⟩)
 have hf : H1 s1.heap.objs.size = none := I1.hok.fresh (Xc _)
 refine ⟨.ref s1.heap.objs.size, upd H1 s1.heap.objs.size (.tup xs), I1.laid (t' := s1.toks) (fun b u e => Xb _ e) (Xc _) ?_, rfl, q _ hf⟩
 exact ⟨z, us, r, ⟨_, Xf _ rfl, rfl, ⟨_, rfl⟩, rfl⟩⟩
theorem Zwu (h : PA X es t) : PE X (.List es pos) (tLst t) := by
 intro pins s σ H Q I hq
 refine wpAny_List_spliced (thn (h pos pins s σ H _ I hq) fun us s1 ⟨xs, H1, I1, r, z, q⟩ => ⟨by rw [← r.length]; exact z, ?_⟩)
 have hf : H1 s1.heap.objs.size = none := I1.hok.fresh (Xc _)
 refine ⟨.ref s1.heap.objs.size, upd H1 s1.heap.objs.size (.lst xs), I1.laid (t' := s1.toks) (fun b u e => Xb _ e) (Xc _) ?_, rfl, q _ hf⟩
 exact ⟨z, us, 0, r, Xf _ rfl⟩
end
nonrec abbrev Sp := List V -> Hp -> VK -> XK -> Prop
nonrec abbrev CXT := List Env -> Hp -> Vd -> XK -> Vb -> Vd -> Prop
structure Env0 (P : Vf) (w : Vk) (K : Xa) (mg : Str -> Option Vb) (base : Vu) (A : Vo) (outer : List Env) (s : Vd) (H : Hp) : Prop where
 frames : A.frames = some outer
 mod : Mod K mg base
 bs : ∀ b o, base.get? b = some o -> s.heap.get? b = some o ∧ H b = none
 bsz : base.objs.size ≤ s.heap.objs.size
 funs : s.heap.FunFrames base outer
 frf : ∀ b ∈ frs outer, H b = none
 hok : HOk P w H s.heap
 bare : Uau s.gens
def CE (outer : List Env) (P : Vf) (w : Vk) (H : Hp) (s : Vd) (Q : VK) (u : Vb) (s' : Vd) : Prop :=
 ∃ v H', s'.os = s.os ∧ Uau s'.gens ∧ Un (frs outer) [] H H' s.heap s'.heap ∧ HOk P w H' s'.heap ∧ Zca v u ∧ Q v H'
def CR (CX : CXT) (outer : List Env) (P : Vf) (w : Vk) (H : Hp) (s : Vd) (Q : VK) (E : XK) (r : Result) (s' : Vd) : Prop :=
 match r with
 | .ok (.ret u) => CE outer P w H s Q u s'
 | .ok _ => False
 | .error e => CX outer H s E e s'
structure FnOk (P : Vf) (w : Vk) (K : Xa) (mg : Str -> Option Vb) (base : Vu) (CX : CXT) (k : Nat) (f : Ve) (fd : Vy) (ps : List Str) (sp : Sp) : Prop where
 len : ∀ vs H Q E, sp vs H Q E -> vs.length = ps.length
 run : ∀ (A : Vo) (outer : List Env) (s : Vd) (H : Hp) (args : Args) (us : List Vb) (vs : List V) (Q : VK) (E : XK), Room k A -> Env0 P w K mg base A outer s H -> BindsTo s fd args (ps.zip us) -> Zbp vs us -> sp vs H Q E →
  codeAny (model P w) A (.call (.ref f) args) (CR CX outer P w H s Q E) s
theorem Env0.make {P : Vf} {w : Vk} {K : Xa} {mg : Str -> Option Vb} {base : Vu} {A : Vo} {outer : List Env} {s : Vd} {H : Hp} (e : Env0 P w K mg base A outer s H) (C : Ve) (us : List Vb) (kw : List (Str × Vb)) :
  Env0 P w K mg base (A.under (.builtin "type.__call__" ⟨.ref C :: us, kw⟩)) outer s H := ⟨by first | exact e.frames | (simpa [Around.under, Code.envs, Tcf, pushEnvs] using e.frames), e.mod, e.bs, e.bsz, e.funs, e.frf, e.hok, e.bare⟩
section
variable {X : Cx} {pins : List (Ve × Obj)} {σ : St} {H : Hp} {s s' : Vd}
theorem Inv.env0 (I : Inv X pins σ H s) : Env0 X.prog X.w X.K X.mg X.base X.A X.stack s H :=
 ⟨I.ok.frames, I.ok.mod, I.bs, Xp I.ok.bsz I.sz, I.stack, I.stkFree, I.hok, I.bare⟩
theorem Inv.after {Q : VK} {u : Vb} (I : Inv X pins σ H s) (h : CE X.stack X.prog X.w H s Q u s') : EP X pins σ Q u s' := by
 obtain ⟨v, H', os, bare, un, hok, r, q⟩ := h
 obtain ⟨hh, g, d, t, os'⟩ := s'
 obtain rfl : os' = s.os := os
 exact ⟨v, H', I.call (h' := hh) (g' := g) (d' := d) (t' := t) (ch := []) un hok bare (fun b z => absurd z (by simp)), r, q⟩
end
nonrec def Yam (sp : Sp) (dvs : List V) (E : XK) (t : TA) : TE := fun σ H Q => t σ H fun vs H1 => sp (vs ++ dvs) H1 Q E
def Zfl (K : Xa) (fd : Vy) (ps : List Str) (ds : List Vb) : Prop :=
 ∀ (s : Vd) (us : List Vb), K.In s.heap -> (us ++ ds).length = ps.length -> BindsTo s fd ⟨us, []⟩ (ps.zip (us ++ ds))
theorem Zfl.all {K : Xa} {fd : Vy} {ps : List Str} (h : ∀ us : List Vb, us.length = ps.length -> bindArgs fd ⟨us, []⟩ = pure (ps.zip us)) : Zfl K fd ps [] := fun s us _ hl => by
 rw [Xu] at hl ⊢
 exact .of_eq (h us hl)
def Zrw (CX : CXT) (X : Cx) (E : XK) : Prop := ∀ (pins : List (Ve × Obj)) (σ : St) (H : Hp) (s : Vd) (e : Vb) (s' : Vd), Inv X pins σ H s -> CX X.stack H s E e s' -> X.xe e s'
section
variable {X : Cx} {CX : CXT} {k : Nat} {f C : Ve} {fd : Vy} {ps : List Str} {sp : Sp} {dvs : List V} {ds : List Vb} {E : XK} {x m : Str} {p pos apos : Pos} {e o : Vq} {es : List Vq} {ta : TE} {t : TA}
theorem Zv6 {pins : List (Ve × Obj)} {σ : St} {H : Hp} {s : Vd} {Q : VK} {us : List Vb} {vs : List V} (F : FnOk X.prog X.w X.K X.mg X.base CX k f fd ps sp) (hr : Room k X.A) (hb : Zfl X.K fd ps ds) (hd : Zbp dvs ds) (hx : Zrw CX X E)
  (I : Inv X pins σ H s) (r : Zbp vs us) (h : sp (vs ++ dvs) H Q E) : wpAny (model X.prog X.w) X.A (call (.ref f) us) (EP X pins σ Q) X.xe s := by
 have r2 : Zbp (vs ++ dvs) (us ++ ds) := r.append hd
 have hl : (us ++ ds).length = ps.length := by rw [← r2.length]; exact F.len _ _ _ _ h
 refine Uaj (Uad (F.run X.A X.stack s H ⟨us, []⟩ (us ++ ds) (vs ++ dvs) Q E hr I.env0 (hb s us I.kIn hl) r2 h) fun r s' hq => ?_)
 cases r with
 | error e => exact hx pins σ H s e s' I hq
 | ok fl =>
  cases fl with
  | ret u => exact I.after hq
  | next => exact Ue hq
  | brk => exact Ue hq
  | cont => exact Ue hq
theorem Zx0 (F : FnOk X.prog X.w X.K X.mg X.base CX k f fd ps sp) (hr : Room k X.A) (hg : Gl X x) (hm : X.mg x = some (.ref f)) (hk : Waz X.K (.ref f) = true) (hb : Zfl X.K fd ps ds) (hd : Zbp dvs ds) (hx : Zrw CX X E)
  (ha : PA X (e :: es) t) (hdb : (x == ("__debug__" : Str)) = false := by decide) (he : starEach (e :: es) X.env = (false, eval e X.env) :: starEach es X.env := by rfl) (hpl : (backTo pos (starEach es X.env)).any (·.1) = false := by rfl) :
  PE X (.Call (.Name x p) (e :: es) [] pos) (Yam sp dvs E t) := by
 intro pins s σ H Q I h
 refine Vt (Zek I hg hm ?_ hdb)
 refine Wbo (h₀ := X.base) I.ok.mod.kin hk (thn (ha pos pins s σ H _ I h) fun us s1 ⟨vs, H1, I1, r, q⟩ => ⟨I1.kIn, ?_⟩) he hpl
 exact Zv6 F hr hb hd hx I1 r q
end
structure FnScope (N P : List Str) (sc : Ubi) : Prop where
 kind : sc.kind = .function
 co : sc.isCoroutine = false
 gen : sc.isGenerator = false
 nd : N.Nodup
 pre : N.take P.length = P
 par : ∀ x ∈ P, sc.names.lookup x = some .local ∨ sc.names.lookup x = some .cell
 nofree : ∀ y ∈ sc.names, y.2 ≠ .free
theorem Zk8 {kindOf : Str -> Option Uam} {x : Str} : ∀ {binds : List (Str × Vb)} {m : Str -> Option Vb}, (∀ v, (x, v) ∉ binds) -> bindL kindOf binds m x = m x
 | [], _, _ => rfl
 | (n, v) :: r, m, h => by
  unfold bindL
  rw [Zk8 fun w hw => h w (Xw _ hw)]
  split
  ·have : x ≠ n := by rintro rfl; exact h v Wav
   simp [this]
  ·rfl
theorem Zmn {kindOf : Str -> Option Uam} {x : Str} : ∀ {binds : List (Str × Vb)} {m : Str -> Option Vb}, (∀ v, (x, v) ∉ binds) -> bindC kindOf binds m x = m x
 | [], _, _ => rfl
 | (n, v) :: r, m, h => by
  unfold bindC
  rw [Zmn fun w hw => h w (Xw _ hw)]
  split
  ·rfl
  ·have : x ≠ n := by rintro rfl; exact h v Wav
   simp [this]
theorem Zl8 {kindOf : Str -> Option Uam} {x : Str} {v : Vb} : ∀ {P : List Str} {vs : List Vb} {i : Nat} {m : Str -> Option Vb}, P.Nodup -> P[i]? = some x -> vs[i]? = some v -> kindOf x = some .local →
  bindL kindOf (P.zip vs) m x = some v
 | [], _, _, _, _, h, _, _ => by simp at h
 | _ :: _, [], _, _, _, _, h, _ => by simp at h
 | p :: P, w :: vs, 0, m, nd, h1, h2, hk => by
  simp at h1 h2; subst h1; subst h2
  show bindL kindOf ((p, w) :: P.zip vs) m p = _
  unfold bindL
  rw [Zk8 fun v hv => (Wbf.mp nd).1 (Wdz hv).1, if_pos hk]
  simp
 | p :: P, w :: vs, i + 1, m, nd, h1, h2, hk => by
  show bindL kindOf ((p, w) :: P.zip vs) m x = _
  unfold bindL
  exact Zl8 (i := i) (Wbf.mp nd).2 (by simpa using h1) (by simpa using h2) hk
theorem Zli {kindOf : Str -> Option Uam} {x : Str} {v : Vb} : ∀ {P : List Str} {vs : List Vb} {i : Nat} {m : Str -> Option Vb}, P.Nodup -> P[i]? = some x -> vs[i]? = some v -> kindOf x ≠ some .local →
  bindC kindOf (P.zip vs) m x = some v
 | [], _, _, _, _, h, _, _ => by simp at h
 | _ :: _, [], _, _, _, _, h, _ => by simp at h
 | p :: P, w :: vs, 0, m, nd, h1, h2, hk => by
  simp at h1 h2; subst h1; subst h2
  show bindC kindOf ((p, w) :: P.zip vs) m p = _
  unfold bindC
  rw [Zmn fun v hv => (Wbf.mp nd).1 (Wdz hv).1, if_neg hk]
  simp
 | p :: P, w :: vs, i + 1, m, nd, h1, h2, hk => by
  show bindC kindOf ((p, w) :: P.zip vs) m x = _
  unfold bindC
  exact Zli (i := i) (Wbf.mp nd).2 (by simpa using h1) (by simpa using h2) hk
nonrec def start (N : List Str) (vs : List V) : St := vs.map some ++ Xg (N.length - vs.length) none
nonrec def Zfy (CX : CXT) (P : Vf) (w : Vk) (K : Xa) (mg : Str -> Option Vb) (base : Vu) (N : List Str) (qual : Str) (scope : Ubi) (f : Ve) (cd : Vb) (A : Vo) (outer : List Env) (s : Vd) (H : Hp) (E : XK) : Cx where
 prog := P
 w := w
 K := K
 mg := mg
 base := base
 A := A.deeper (envOfC qual scope s.heap.objs.size f cd)
 N := N
 s₀ := s
 H₀ := H
 env := envOfC qual scope s.heap.objs.size f cd
 outer := outer
 stack := envOfC qual scope s.heap.objs.size f cd :: outer
 ex := []
 calm := true
 fn := fun _ => true
 pn := []
 xe := fun e s' => wpAny (model P w) (A.deeper (envOfC qual scope s.heap.objs.size f cd)) (leaving (envOfC qual scope s.heap.objs.size f cd) e) (fun _ s'' => CX outer H s E e s'') (fun e' s'' => CX outer H s E e' s'') s'
theorem Zkm {sc : Ubi} {n : Nat} {x : Str} (h : sc.names.lookup x = some .cell) : ∃ c, (cellsFrom n sc.names []).lookup x = some c := by
 have q := Wdv sc.names n [] (.inl h)
 exact Wcj.mp q
theorem Zp2 {CX : CXT} {P : Vf} {w : Vk} {K : Xa} {mg : Str -> Option Vb} {base : Vu} {N ps : List Str} {qual : Str} {scope : Ubi} {f : Ve} {cd : Vb} {A : Vo} {outer : List Env} {s s1 : Vd} {H : Hp} {E : XK} {us : List Vb} {vs : List V}
  (S : FnScope N ps scope) (hd : A.handled = none) (e0 : Env0 P w K mg base A outer s H) (hl : vs.length = ps.length) (r : Zbp vs us)
  (x : InCallC s s.heap.objs.size (bindL (envOfC qual scope s.heap.objs.size f cd).kindOf (ps.zip us) fun _ => none) (cellsFrom (s.heap.objs.size + 1) scope.names []) (bindC (envOfC qual scope s.heap.objs.size f cd).kindOf (ps.zip us) fun _ => none) s1) :
  Inv (Zfy CX P w K mg base N qual scope f cd A outer s H E) [] (start N vs) H s1 := by
 have hpl : ps.length ≤ N.length := by have := congrArg Wdq S.pre; rw [Wbm] at this; omega
 obtain ⟨h1, tk, rfl, hk⟩ := x.done
 have noA : ∀ b : Ve, b ∉ (Zfy CX P w K mg base N qual scope f cd A outer s H E).ex := fun b z => absurd (show b ∈ ([] : List Ve) from z) (by simp)
 refine ⟨⟨e0.mod, S.kind, rfl, rfl, Xc _, fun y z c h1 h2 => ?_, fun y hy => ?_, fun y c _ h => ?_, fun _ => hd, Around.frames_deeper e0.frames, .inr ⟨rfl, rfl⟩, fun b z => absurd z (noA b), e0.bs, e0.bsz, fun b _ _ => noA b, fun b z => absurd z (noA b), e0.funs, e0.frf⟩,
  rfl, e0.bare, Un.kept hk, ⟨_, x.toInCall.ns, fun i y v h1 h2 h3 => ?_⟩, fun y c h => ⟨_, x.cell y c h⟩, e0.hok.fresh (Xc _), fun y c h => ?_, fun p hp => absurd (show p ∈ ([] : List (Ve × Obj)) from hp) (by simp), e0.hok.kept hk, ?_⟩
 ·exact name_of_addr x.apart (Uv h1) (Uv h2)
 ·have hy : scope.names.lookup y = some .cell ∨ scope.names.lookup y = some .free := hy
  rcases hy with hy | hy
  ·exact Zkm hy
  ·exact absurd rfl (S.nofree _ (Uv hy))
 ·exact Wdy (x.above y c (Uv h))
 ·have hi : i < vs.length := by
   unfold start at h2
   by_cases hi : i < vs.length
   ·exact hi
   ·rw [Waq (by simpa using hi)] at h2
    rw [Wcm] at h2
    split at h2 <;> cases h2
  have ha : vs[i]? = some v := by
   unfold start at h2
   rw [Xx (by simpa using hi), Waf] at h2
   cases e : vs[i]? with
   | none => rw [e] at h2; cases h2
   | some a => rw [e] at h2; cases h2; rfl
  obtain ⟨u, hu, rv⟩ := r.get ha
  have hp : ps[i]? = some y := by
   rw [← S.pre, List.getElem?_take_of_lt (by omega)]; exact h1
  have ndP : ps.Nodup := by rw [← S.pre]; exact S.nd.sublist (List.take_sublist _ _)
  refine ⟨u, rv, ?_⟩
  rcases S.par y (Wbi hp) with k | k
  ·exact .inl ⟨k, Zl8 ndP hp hu k⟩
  ·obtain ⟨c, e⟩ := Zkm (n := s.heap.objs.size + 1) k
   refine .inr ⟨.inl k, c, e, ?_⟩
   have q := x.cell y c e
   rw [Zli ndP hp hu (by show scope.names.lookup y ≠ _; rw [k]; decide)] at q
   exact q
 ·exact e0.hok.fresh (Wdy (x.above y c (Uv h)))
 ·unfold start
  show _ = N.length
  rw [Wap, Xk, List.length_replicate]
  omega
theorem Zzy {CX : CXT} {P : Vf} {w : Vk} {K : Xa} {mg : Str -> Option Vb} {base : Vu} {k : Nat} {f : Ve} {name qual : Str} {params : Arguments} {body : List Vw} {scope : Ubi} {dV kV doc pm cdv ct oc : Vb} {an od : Option Ve}
  {osl : Array (Option Vb)} {N ps : List Str} {sp : Sp} (lk : K.lookup f = some ⟨oc, od, .func (Wbp name qual params body scope dV kV doc pm an cdv ct), osl⟩) (hcd : Wda K cdv qual = true) (S : FnScope N ps scope)
  (len : ∀ vs H Q E, sp vs H Q E -> vs.length = ps.length)
  (hbody : ∀ (A : Vo) (outer : List Env) (s : Vd) (H : Hp) (vs : List V) (Q : VK) (E : XK), Room k (A.deeper (envOfC qual scope s.heap.objs.size f cdv)) -> sp vs H Q E →
   ∃ t, PSs (Zfy CX P w K mg base N qual scope f cdv A outer s H E) body t ∧ t { nx := fun _ H' => Q .non H', rt := Q } (start N vs) H) :
  FnOk P w K mg base CX (k + 1) f (Wbp name qual params body scope dV kV doc pm an cdv ct) ps sp := by
 refine ⟨len, fun A outer s H args us vs Q E hr e0 hb r hsp => ?_⟩
 have hl := len _ _ _ _ hsp
 have KX : K.In s.heap := e0.mod.kin.keeps fun b o e => (e0.bs b o e).1
 have lim : s.heap.NoLimit := e0.mod.nolimit.keeps fun b o e => (e0.bs b o e).1
 have hkind : ∀ y ∈ ps.zip us, scope.names.lookup y.1 = some .local ∨ (scope.names.lookup y.1 = some .cell ∧ ((cellsFrom (s.heap.objs.size + 1) scope.names []).lookup y.1).isSome = true) := fun ⟨n, v⟩ hy => by
  rcases S.par n (Wdz hy).1 with q | q
  ·exact .inl q
  ·exact .inr ⟨q, Wdv _ _ _ (.inl q)⟩
 refine codeAny_call_function hr.depth (KX _ _ lk) rfl S.co S.gen rfl (PySem.W.codeRec_of KX hcd) (hb _ _ _ _ ?_)
 refine wpAny_newFunctionEnv_cells S.kind hkind fun env he s1 x => ?_
 subst he
 refine ⟨lim.keeps x.toInCall.keep, codeAny_func ?_⟩
 obtain ⟨t, ht, hq⟩ := hbody A outer s H vs Q E (hr.deeper _) hsp
 have I : Inv (Zfy CX P w K mg base N qual scope f cdv A outer s H E) [] (start N vs) H s1 := Zp2 S hr.hd e0 hl r x
 refine Vn (ht [] s1 (start N vs) H _ I hq) (fun fl s' hs => ?_) fun e s' hs => hs
 have fin : ∀ {σ' : St} {H' : Hp} {v : V} {u : Vb}, Inv (Zfy CX P w K mg base N qual scope f cdv A outer s H E) [] σ' H' s' -> Zca v u -> Q v H' -> CE outer P w H s Q u s' :=
  fun {σ' H' v u} J rv q => ⟨v, H', J.os, J.bare, J.base, J.hok, rv, q⟩
 cases fl with
 | ret u =>
  obtain ⟨v, σ', H', J, rv, q⟩ := hs
  exact fin J rv q
 | next =>
  obtain ⟨σ', H', J, q⟩ := hs
  exact fin (v := V.non) (u := Ur) J rfl q
 | brk =>
  obtain ⟨_, _, _, q⟩ := hs
  exact Ue q
 | cont =>
  obtain ⟨_, _, _, q⟩ := hs
  exact Ue q
section
variable {X : Cx} {x : Str} {p pos : Pos} {e : Vq} {es : List Vq} {t : TA} {id T : String} {r : List V -> Hp -> VK -> Prop}
nonrec def tCB (r : List V -> Hp -> VK -> Prop) (t : TA) : TE := fun σ H Q => t σ H fun vs H1 => r vs H1 Q
theorem Zht (hc : Zhj X (.builtin id) r) (hg : Gl X x) (hm : X.mg x = none) (hv : bootBuiltins x = some (.builtin id)) (ha : PA X (e :: es) t) (hn : x ≠ "__name__" := by decide) (hdb : (x == ("__debug__" : Str)) = false := by decide)
  (he : starEach (e :: es) X.env = (false, eval e X.env) :: starEach es X.env := by rfl) (hpl : (backTo pos (starEach es X.env)).any (·.1) = false := by rfl) : PE X (.Call (.Name x p) (e :: es) [] pos) (tCB r t) := by
 intro pins s σ H Q I h
 refine Vt (Zfh I hg hm hv ?_ hn hdb)
 exact Tax (thn (ha pos pins s σ H _ I h) fun us s1 ⟨vs, H1, I1, r1, q1⟩ => hc pins s1 σ H1 vs us Q I1 r1 q1) he hpl
theorem Zqw (hc : Zhj X (.type T) r) (hg : Gl X x) (hm : X.mg x = none) (hv : bootBuiltins x = some (.type T)) (ha : PA X (e :: es) t) (hn : x ≠ "__name__" := by decide) (hdb : (x == ("__debug__" : Str)) = false := by decide)
  (he : starEach (e :: es) X.env = (false, eval e X.env) :: starEach es X.env := by rfl) (hpl : (backTo pos (starEach es X.env)).any (·.1) = false := by rfl) : PE X (.Call (.Name x p) (e :: es) [] pos) (tCB r t) := by
 intro pins s σ H Q I h
 refine Vt (Zfh I hg hm hv ?_ hn hdb)
 exact Uu (thn (ha pos pins s σ H _ I h) fun us s1 ⟨vs, H1, I1, r1, q1⟩ => hc pins s1 σ H1 vs us Q I1 r1 q1) he hpl
end
end L2
namespace HT
open PySem PyProof.Rows
section
variable {prog : Vf} {w : Vk} {A : Vo} {E : Vb -> Vd -> Prop} {s : Vd}
theorem cat_tup {t b : Ve} {vs ws : List Vb} {Q : Vb -> Vd -> Prop} (ht : Uce s.heap t vs.toArray) (hb : Uce s.heap b ws.toArray) (hv : vs ≠ [])
  (h1 : ws = [] → Q (.ref t) s) (h2 : ws ≠ [] → Q (.ref s.heap.objs.size) { s with heap := s.heap.push { cls := .type "tuple", data := .seq (vs ++ ws).toArray } })
  (hsz : vs.length + ws.length ≤ sizeLine) : wpAny (model prog w) A (binaryOp .Add (.ref t) (.ref b)) Q E s := by
 obtain ⟨⟨cls, dd, data, sl⟩, ho, hc, n, hd⟩ := id ht
 obtain ⟨⟨cls2, dd2, data2, sl2⟩, ho2, hc2, n2, hd2⟩ := id hb
 simp only at hc hd hc2 hd2
 subst hc hd hc2 hd2
 have e : vs.toArray ++ ws.toArray = (vs ++ ws).toArray := by simp
 by_cases hw : ws = []
 ·exact Ucc ⟨_, ho, rfl⟩ ⟨_, ho2, rfl⟩ Ubg Uby Taw Tat (Taq _ _)
   (tuple_addW1 t b vs.toArray ws.toArray n n2 dd dd2 sl sl2 (by simpa using hv) (by simp [hw])) ⟨ho, ho2, h1 hw⟩
 ·refine Ucc ⟨_, ho, rfl⟩ ⟨_, ho2, rfl⟩ Ubg Uby Taw Tat (Taq _ _)
   (tuple_addW2 t b vs.toArray ws.toArray n n2 dd dd2 sl sl2 (by simpa using hv) (by simpa using hw) (by rw [Xi, Xi]; exact hsz)) ⟨ho, ho2, ?_⟩
  rw [e]
  exact h2 hw
nonrec def sIx (n d : Nat) : Option Int -> Nat
 | none => d
 | some v => if v < 0 then (v + (n : Int)).toNat else min v.toNat n
theorem Ya1 (n d : Nat) (hd : d ≤ n) (o : Option Int) : sIx n d o ≤ n := by
 cases o with
 | none => exact hd
 | some v =>
  show (if v < 0 then (v + (n : Int)).toNat else min v.toNat n) ≤ n
  by_cases hv : v < 0
  ·rw [if_pos hv]; omega
  ·rw [if_neg hv]; exact Nat.min_le_right _ _
theorem Zp4 (v : Int) (n d : Nat) : (if v < 0 then max (v + (n : Int)) 0 else min v (n : Int)) = ((sIx n d (some v) : Nat) : Int) := by
 show (if v < 0 then max (v + (n : Int)) 0 else min v (n : Int)) = (((if v < 0 then (v + (n : Int)).toNat else min v.toNat n) : Nat) : Int)
 by_cases hv : v < 0
 ·simp only [if_pos hv]; omega
 ·simp only [if_neg hv]; omega
theorem Zo9 (lo hi : Option Int) (n : Nat) : Tao lo hi 1 (n : Int) = (((sIx n 0 lo : Nat) : Int), ((sIx n n hi : Nat) : Int)) := by
 have h1 : ¬ ((1 : Int) < 0) := by omega
 unfold Tao
 simp only [h1, if_false]
 refine Prod.ext ?_ ?_
 ·cases lo with
  | none => rfl
  | some v => exact Zp4 v n 0
 ·cases hi with
  | none => rfl
  | some v => exact Zp4 v n n
theorem Zpi (i j : Nat) : Uh (i : Int) (j : Int) 1 = j - i := by
 unfold Uh
 have h1 : (1 : Int) > 0 := by omega
 simp only [h1, if_true, Int.ediv_one]
 split <;> omega
theorem Zgx {v : Vb} {o : Option Int} {Q : Option Int -> Vd -> Prop} (p : Ubm v o) (h : Q o s) : wpAny (model prog w) A (Builtin.Slice.slicePartIndex v) Q E s := by
 cases p with
 | none => exact Uaz h
 | int i t => exact slicePart_int h
theorem sliceApplied_gen {sl : Ve} {vl vu : Vb} {lo hi : Option Int} {n : Nat} {Q : Int × Int × Nat -> Vd -> Prop} (hs : s.heap.IsSliceOf sl vl vu .none) (pl : Ubm vl lo) (pu : Ubm vu hi)
  (h : Q (((sIx n 0 lo : Nat) : Int), 1, sIx n n hi - sIx n 0 lo) s) : wpAny (model prog w) A (Ux (.ref sl) (pure (n : Int))) Q E s := by
 obtain ⟨os, hos, hcs, hds⟩ := id hs
 unfold Ux Tbn
 refine Va (Va (Vj hos hds (x := vl) rfl (Va (Vj hos hds (x := vu) rfl (Va (Vj hos hds (x := .none) rfl (Vc ?_)))))))
 refine Va (Uaz ?_)
 show wpAny _ _ (if ((1 : Int) == 0) = true then _ else _) _ _ s
 rw [if_neg (by decide)]
 refine Va (Zgx pl (Va (Zgx pu (Va (Vc ?_)))))
 show wpAny _ _ (match Tao lo hi 1 (n : Int) with | (lo, hi) => pure (lo, (1 : Int), Uh lo hi 1)) _ _ s
 rw [Zo9 lo hi n]
 show wpAny _ _ (pure (((sIx n 0 lo : Nat) : Int), (1 : Int), Uh ((sIx n 0 lo : Nat) : Int) ((sIx n n hi : Nat) : Int) 1)) _ _ s
 rw [Zpi]
 exact Vc h
theorem Zuj (xs : Array Vb) (i k : Nat) : ((Wcw k).filterMap fun (m : Nat) => xs[((i : Int) + (m : Int) * 1).toNat]?).toArray = ((xs.toList.drop i).take k).toArray := by
 have e : (fun (m : Nat) => xs[((i : Int) + (m : Int) * 1).toNat]?) = fun m => xs[i + m]? := by
  funext m
  have : ((i : Int) + (m : Int) * 1).toNat = i + m := by omega
  rw [this]
 rw [e]
 have := pick_run xs i k
 rw [Wes] at this
 have e2 : ((fun x => xs[x]?) ∘ fun x => i + x) = fun m => xs[i + m]? := rfl
 rw [e2] at this
 rw [this]
theorem getItem_tuple_cut {t sl : Ve} {items : Array Vb} {vl vu : Vb} {lo hi : Option Int} {Q : Vb -> Vd -> Prop} (ht : Uce s.heap t items) (hs : s.heap.IsSliceOf sl vl vu .none) (pl : Ubm vl lo) (pu : Ubm vu hi)
  (hw : ¬ (sIx items.size 0 lo = 0 ∧ sIx items.size items.size hi = items.size))
  (h : Q (.ref s.heap.objs.size) { s with heap := s.heap.push { cls := .type "tuple", data := .seq ((items.toList.drop (sIx items.size 0 lo)).take (sIx items.size items.size hi - sIx items.size 0 lo)).toArray } })
  (hsz : items.size ≤ sizeLine) : wpAny (model prog w) A (getItem (.ref t) (.ref sl)) Q E s := by
 have htake : sizeOk (.seq ((items.toList.drop (sIx items.size 0 lo)).take (sIx items.size items.size hi - sIx items.size 0 lo)).toArray) := by
  show ((items.toList.drop (sIx items.size 0 lo)).take (sIx items.size items.size hi - sIx items.size 0 lo)).toArray.size ≤ sizeLine
  rw [Xi, Wbm, Wce, Wcg]
  omega
 have hj : sIx items.size items.size hi ≤ items.size := Ya1 _ _ (Xc _) hi
 obtain ⟨os, hos, hcs, hds⟩ := id hs
 have hTs : s.TypeIs (.ref sl) "slice" := ⟨os, hos, hcs⟩
 unfold getItem
 try with_reducible refine Vr ?_
 first | refine Va (Vc ?_) | skip
 refine Va (Ube ht.typeIs (by decide) ?_)
 refine Va (Vg (name := Ub "__getitem__") ht.typeIs Uc
  (Vl Uc ht.typeIs entry_tuple_getitem ?_ (Uaw _ _)))
 show wpAny _ _ (Tan (.ref t) >>= _) _ _ s
 refine Va (Ubz ht ?_)
 refine Va (Uay hTs ?_)
 rw [if_pos (by decide)]
 refine Va (sliceApplied_gen hs pl pu ?_)
 have hno : ¬ ((((sIx items.size 0 lo : Nat) : Int) == 0 && (1 : Int) == 1 && (sIx items.size items.size hi - sIx items.size 0 lo) == items.size) = true) := by
  intro q
  rw [Xv, Xv] at q
  have q1 : ((sIx items.size 0 lo : Nat) : Int) = 0 := eq_of_beq q.1.1
  have q2 : sIx items.size items.size hi - sIx items.size 0 lo = items.size := eq_of_beq q.2
  exact hw ⟨by omega, by omega⟩
 show wpAny _ _ (if (((sIx items.size 0 lo : Nat) : Int) == 0 && (1 : Int) == 1 && (sIx items.size items.size hi - sIx items.size 0 lo) == items.size) = true then _ else _) _ _ s
 rw [if_neg hno, Zuj]
 first
  | exact Va (m := Ug _) (Vi (Vc ⟨_, rfl, Vc h⟩) htake)
  | exact Va (m := Ug _) (Vi (Va (Vc (Vc ⟨_, rfl, Vc h⟩))) htake)
  | exact Va (Va (m := Ug _) (Vi (Vc (Vc ⟨_, rfl, Vc h⟩)) htake))
  | exact Va (Va (m := Ug _) (Vi (Vc ⟨_, rfl, Vc h⟩) htake))
end
end HT
namespace L2
open PySem PySem.Spec PyProof.Rows
nonrec abbrev TO := St -> Hp -> (Option Int -> Hp -> Prop) -> Prop
def PO (X : Cx) (e : Option Vq) (t : TO) : Prop :=
 ∀ (pins : List (Ve × Obj)) (s : Vd) (σ : St) (H : Hp) (Q : Option Int -> Hp -> Prop), Inv X pins σ H s -> t σ H Q →
  wpAny (model X.prog X.w) X.A (evalPart e X.env) (fun u s' => ∃ o H', Inv X pins σ H' s' ∧ Ubm u o ∧ Q o H') X.xe s
nonrec def Zxp : TO := fun _ H Q => Q none H
nonrec def tPart (t : TE) : TO := fun σ H Q => t σ H fun x H1 => ∃ i, x = .int i ∧ Q (some i) H1
theorem Zjt {ns : List Int} : ∀ {us : List Vb}, Zbp (ns.map V.int) us -> Uak us ns := by
 induction ns with
 | nil => intro us r; rw [List.map_nil] at r; cases r; exact .nil
 | cons n ns ih =>
  intro us r
  rw [Xr] at r
  cases r with
  | cons r1 r2 =>
   obtain ⟨t, e⟩ := r1
   subst e
   exact .cons n t (ih r2)
section
variable {X : Cx} {e : Vq} {te : TE} {lo hi : Option Vq} {tl th : TO} {pos p2 : Pos}
theorem Zwz : PO X none Zxp := by
 intro pins s σ H Q I h
 rw [Ubx]
 exact Vc ⟨none, H, I, .none, h⟩
theorem Zyb (h : PE X e te) : PO X (some e) (tPart te) := by
 intro pins s σ H Q I hw
 rw [evalPart_some]
 refine thn (h pins s σ H _ I hw) fun u s1 zz => ?_
 obtain ⟨x, H1, I1, r1, q1⟩ := zz
 obtain ⟨i, rfl, q⟩ := q1
 obtain ⟨t, rfl⟩ := r1
 exact ⟨some i, H1, I1, .int i t, q⟩
def SlR (X : Cx) (r : V -> Option Int -> Option Int -> Hp -> VK -> Prop) : Prop :=
 ∀ (pins : List (Ve × Obj)) (s : Vd) (σ : St) (H : Hp) (x : V) (v vl vu : Vb) (lo hi : Option Int) (sl : Ve) (Q : VK), Inv X pins σ H s -> Zca x v -> s.heap.IsSliceOf sl vl vu .none -> Ubm vl lo -> Ubm vu hi -> r x lo hi H Q →
  ∃ T id, typeLookup (.type T) "__getitem__" = pure (some (.builtin id)) ∧ s.TypeIs v T ∧ wpAny (model X.prog X.w) X.A (getItem v (.ref sl)) (EP X pins σ Q) X.xe s
nonrec def tSl (r : V -> Option Int -> Option Int -> Hp -> VK -> Prop) (te : TE) (tl th : TO) : TE := fun σ H Q => te σ H fun x H1 => tl σ H1 fun l H2 => th σ H2 fun u H3 => r x l u H3 Q
theorem Zvj {r : V -> Option Int -> Option Int -> Hp -> VK -> Prop} (hr : SlR X r) (he : PE X e te) (hl : PO X lo tl) (hu : PO X hi th) : PE X (.Subscript e (.Slice lo hi none p2) pos) (tSl r te tl th) := by
 intro pins s σ H Q I h
 refine Subscript_ (thn (he pins s σ H _ I h) fun v s1 zz => ?_)
 obtain ⟨x, H1, I1, r1, q1⟩ := zz
 refine wpAny_Slice (thn (hl pins s1 σ H1 _ I1 q1) fun vl s2 ⟨l, H2, I2, pl, q2⟩ => thn (hu pins s2 σ H2 _ I2 q2) fun vu s3 zz => ?_)
 obtain ⟨u, H3, I3, pu, q3⟩ := zz
 rw [Ubx]
 refine Vc ?_
 have I4 : Inv X pins σ H3 { s3 with heap := s3.heap.push { cls := .type "slice", data := .fields #[vl, vu, .none] } } := I3.kept (t' := s3.toks) fun b ob q => Xb _ q
 obtain ⟨T, id, hT, ht, hg⟩ := hr pins { s3 with heap := s3.heap.push { cls := .type "slice", data := .fields #[vl, vu, .none] } } σ H3 x v vl vu l u s3.heap.objs.size Q I4 r1 (Wfl.new ..) pl pu q3
 show wpAny (model X.prog X.w) X.A (subscriptTail e (.Slice lo hi none p2) v (.ref s3.heap.objs.size)) (EP X pins σ Q) X.xe { s3 with heap := s3.heap.push { cls := .type "slice", data := .fields #[vl, vu, .none] } }
 exact tail_any (ops := [.ref s3.heap.objs.size, v]) ht hT hg (by with_unfolding_all rfl)
nonrec def Zvp (xs : List V) (lo hi : Option Int) : List V := (xs.drop (HT.sIx xs.length 0 lo)).take (HT.sIx xs.length xs.length hi - HT.sIx xs.length 0 lo)
theorem Zel (xs : List V) (lo hi : Option Int) : (Zvp xs lo hi).length ≤ xs.length := by
 unfold Zvp
 rw [Wbm, Wce]
 omega
nonrec def rSlT (K : Xa) : V -> Option Int -> Option Int -> Hp -> VK -> Prop := fun x lo hi H Q => ∃ a xs, x = .ref a ∧ SqT K H a xs ∧
 ¬ (HT.sIx xs.length 0 lo = 0 ∧ HT.sIx xs.length xs.length hi = xs.length) ∧ ∀ p, H p = none -> Q (.ref p) (upd H p (.tup (Zvp xs lo hi)))
theorem Ybx : SlR X (rSlT X.K) := by
 intro pins s σ H x v vl vu lo hi sl Q I rx hs pl pu h
 obtain ⟨a, xs, rfl, hx, hw, q⟩ := h
 cases rx
 obtain ⟨its, r, ht, hz⟩ := I.tuple hx
 have hlen : its.toArray.size = xs.length := by rw [Xi]; exact r.length.symm
 refine ⟨"tuple", _, Uc.lookup, ht.typeIs, ?_⟩
 refine HT.getItem_tuple_cut ht hs pl pu (by rw [hlen]; exact hw) ?_ (by rw [hlen]; exact hz)
 rw [hlen]
 refine ⟨.ref s.heap.objs.size, _, I.laid (t' := s.toks) (o := .tup (Zvp xs lo hi)) (fun b ob q => Xb _ q) (Xc _) ?_, rfl, q _ (I.hok.fresh (Xc _))⟩
 exact ⟨Xp (Zel xs lo hi) hz, _, (r.drop (HT.sIx xs.length 0 lo)).take (HT.sIx xs.length xs.length hi - HT.sIx xs.length 0 lo), Zjd.new _ _⟩
nonrec def rCatT (K : Xa) : R2 := fun x y H Q => ∃ a b xs ys, x = .ref a ∧ y = .ref b ∧ SqT K H a xs ∧ SqT K H b ys ∧ xs ≠ [] ∧ xs.length + ys.length ≤ sizeLine ∧
 (ys = [] -> Q (.ref a) H) ∧ (ys ≠ [] -> ∀ p, H p = none -> Q (.ref p) (upd H p (.tup (xs ++ ys))))
theorem Zbp.nil_iff {xs : List V} {us : List Vb} (r : Zbp xs us) : us = [] ↔ xs = [] := by
 cases r with
 | nil => simp
 | cons _ _ => simp
theorem Zrq : OpR X (binaryOp .Add) (rCatT X.K) := by
 intro pins s σ H x y v u Q I rx ry h
 obtain ⟨a, b, xs, ys, rfl, rfl, ha, hb, hx, hz, q1, q2⟩ := h
 cases rx
 cases ry
 obtain ⟨its, r1, p1, _⟩ := I.tuple ha
 obtain ⟨its2, r2, p2, _⟩ := I.tuple hb
 refine HT.cat_tup p1 p2 (fun z => hx (r1.nil_iff.mp z)) (fun z => ⟨.ref a, H, I, rfl, q1 (r2.nil_iff.mp z)⟩) (fun z => ?_) (by rw [← r1.length, ← r2.length]; exact hz)
 refine ⟨.ref s.heap.objs.size, _, I.laid (t' := s.toks) (o := .tup (xs ++ ys)) (fun b ob q => Xb _ q) (Xc _) ?_, rfl, q2 (fun w => z (r2.nil_iff.mpr w)) _ (I.hok.fresh (Xc _))⟩
 exact ⟨by rw [Wap]; exact hz, _, r1.append r2, Zjd.new _ _⟩
end
nonrec def ixN (n : Nat) (i : Int) : Option Nat := if 0 ≤ i then (if i < n then some i.toNat else none) else if -(n : Int) ≤ i then some (i + n).toNat else none
nonrec def atI {α : Type} (xs : List α) (i : Int) : Option α := (ixN xs.length i).bind fun j => xs[j]?
theorem Zxl {n : Nat} {i : Int} {j : Nat} (h : ixN n i = some j) : seqIndex? i n = some j ∧ j < n ∧ -(n : Int) ≤ i ∧ i < n := by
 unfold ixN at h
 by_cases h0 : 0 ≤ i
 ·rw [if_pos h0] at h
  by_cases h1 : i < n
  ·rw [if_pos h1] at h
   have e : i.toNat = j := Waa.inj h
   exact ⟨by rw [seqIndex_of h0 h1, e], by omega, by omega, h1⟩
  ·rw [if_neg h1] at h; cases h
 ·rw [if_neg h0] at h
  by_cases h1 : -(n : Int) ≤ i
  ·rw [if_pos h1] at h
   have e : (i + n).toNat = j := Waa.inj h
   exact ⟨by rw [seqIndex_neg (by omega) h1, e], by omega, h1, by omega⟩
  ·rw [if_neg h1] at h; cases h
theorem Zqf {α : Type} {xs : List α} {i : Int} {v : α} (h : atI xs i = some v) : ∃ j, seqIndex? i xs.length = some j ∧ xs[j]? = some v ∧ j < xs.length ∧ -(xs.length : Int) ≤ i ∧ i < xs.length := by
 unfold atI at h
 cases e : ixN xs.length i with
 | none => rw [e] at h; cases h
 | some j =>
  rw [e] at h
  obtain ⟨h1, h2, h3, h4⟩ := Zxl e
  exact ⟨j, h1, h, h2, h3, h4⟩
theorem Zef {α : Type} {xs : List α} {j : Nat} {v : α} (h : xs[j]? = some v) : atI xs (j : Int) = some v := by
 have hj : j < xs.length := (Xd.mp h).1
 have e : ixN xs.length (j : Int) = some j := by
  unfold ixN
  rw [if_pos (by omega), if_pos (by omega)]; simp
 unfold atI; rw [e]; exact h
theorem Zu9 {α : Type} (xs : List α) (v : α) : atI (xs ++ [v]) (-1) = some v := by
 have hl : (xs ++ [v]).length = xs.length + 1 := by simp
 have e : ixN (xs ++ [v]).length (-1) = some xs.length := by
  unfold ixN
  rw [hl, if_neg (by decide), if_pos (by omega)]
  congr 1
  omega
 unfold atI
 rw [e]
 show (xs ++ [v])[xs.length]? = some v
 simp
def Zsa (b : Vq) : Prop := ∀ o i, subscripted b false o i = operate [o, i] (getItem o i)
def IxR (X : Cx) (r : R2) : Prop :=
 ∀ (value slice : Vq) (pins : List (Ve × Obj)) (s : Vd) (σ : St) (H : Hp) (x y : V) (v u : Vb) (Q : VK), Inv X pins σ H s -> Zca x v -> Zca y u -> r x y H Q →
  subscripted slice false v u = operate [v, u] (getItem v u) -> wpAny (model X.prog X.w) X.A (subscriptTail value slice v u) (EP X pins σ Q) X.xe s
def MtR (X : Cx) (id : String) (r : V -> List V -> Hp -> VK -> Prop) : Prop :=
 ∀ (pins : List (Ve × Obj)) (s : Vd) (σ : St) (H : Hp) (x : V) (xs : List V) (v : Vb) (us : List Vb) (Q : VK), Inv X pins σ H s -> Zca x v -> Zbp xs us -> r x xs H Q →
  wpAny (model X.prog X.w) X.A (call (.builtin id) (v :: us)) (EP X pins σ Q) X.xe s
section
variable {X : Cx} {a b : Vq} {ta tb : TE} {pos : Pos}
theorem pe_ix {r : R2} (hr : IxR X r) (ha : PE X a ta) (hb : PE X b tb) (hs : Zsa b) : PE X (.Subscript a b pos) (tOp r ta tb) := by
 intro pins s σ H Q I h
 exact Subscript_ (binT ha hb I h fun v u s2 x y H2 I2 rx ry q => hr a b pins s2 σ H2 x y v u Q I2 rx ry q (hs _ _))
nonrec def rIxL (K : Xa) : R2 := fun x y H Q => ∃ p xs i v, x = .ref p ∧ y = .int i ∧ SqL K H p xs ∧ atI xs i = some v ∧ Q v H
nonrec def rIxT (K : Xa) : R2 := fun x y H Q => ∃ p xs i v, x = .ref p ∧ y = .int i ∧ SqT K H p xs ∧ atI xs i = some v ∧ Q v H
theorem Zyc : IxR X (rIxL X.K) := by
 intro value slice pins s σ H x y v u Q I rx ry h hs
 obtain ⟨p, xs, i, z, rfl, rfl, hq, he, q⟩ := h
 cases rx
 obtain ⟨t, rfl⟩ := ry
 obtain ⟨its, r, pl, hz⟩ := I.list hq
 obtain ⟨j, h1, h2, h3, h4, h5⟩ := Zqf he
 obtain ⟨w, ew, rw'⟩ := r.get h2
 have hl := r.length
 have hn := Zle
 have fin : EP X pins σ Q w s := ⟨z, H, I, rw', q⟩
 by_cases h0 : 0 ≤ i
 ·have hj : i.toNat = j := by
   rw [seqIndex_of h0 h5] at h1
   exact Waa.inj h1
  exact item_listR pl.isList h0 (by omega) (by rw [hj]; simpa using ew) fin hs
 ·have hj : (i + (its.toArray.size : Int)).toNat = j := by
   rw [seqIndex_neg (by omega) h4] at h1
   rw [Xi, ← hl]
   exact Waa.inj h1
  exact Ubk (x := w) pl.isList.typeIs slot_list_getitem.lookup
   (wpAny_getItem_list_neg (Q := fun r s' => r = w ∧ EP X pins σ Q r s') pl.isList (by omega) (by rw [Xi] <;> omega) (by omega) (by rw [hj]; simpa using ew) ⟨rfl, fin⟩) hs
theorem Yb8 : IxR X (rIxT X.K) := by
 intro value slice pins s σ H x y v u Q I rx ry h hs
 obtain ⟨p, xs, i, z, rfl, rfl, hq, he, q⟩ := h
 cases rx
 obtain ⟨t, rfl⟩ := ry
 obtain ⟨its, r, pl, hz⟩ := I.tuple hq
 obtain ⟨j, h1, h2, h3, h4, h5⟩ := Zqf he
 obtain ⟨w, ew, rw'⟩ := r.get h2
 have hl := r.length
 have hn := Zle
 have fin : EP X pins σ Q w s := ⟨z, H, I, rw', q⟩
 exact Ubk (x := w) pl.typeIs slot_tuple_getitem.lookup
  (getItem_tuple (j := j) (Q := fun r s' => r = w ∧ EP X pins σ Q r s') pl (by omega) (by omega) (by rw [Xi, ← hl]; exact h1) (by simpa using ew) ⟨rfl, fin⟩) hs
theorem Zls (lo hi : Option Int) (n : Nat) : (sliceBounds lo hi none n).1 = ((HT.sIx n 0 lo : Nat) : Int) ∧ (sliceBounds lo hi none n).2.1 = ((HT.sIx n n hi : Nat) : Int) ∧ (sliceBounds lo hi none n).2.2 = 1 := by
 refine ⟨?_, ?_, rfl⟩
 ·cases lo with
  | none => simp [sliceBounds, HT.sIx]
  | some i =>
   simp only [sliceBounds, HT.sIx, Wfg, show (1 : Int) > 0 by decide, if_true]
   by_cases h : i < 0
   ·simp only [h, if_true] <;> omega
   ·simp only [h, if_false] <;> omega
 ·cases hi with
  | none => simp [sliceBounds, HT.sIx]
  | some i =>
   simp only [sliceBounds, HT.sIx, Wfg, show (1 : Int) > 0 by decide, if_true]
   by_cases h : i < 0
   ·simp only [h, if_true] <;> omega
   ·simp only [h, if_false] <;> omega
theorem Zkn (its : List Vb) (lo hi : Option Int) : slicePick its.toArray lo hi none = ((its.drop (HT.sIx its.length 0 lo)).take (HT.sIx its.length its.length hi - HT.sIx its.length 0 lo)).toArray := by
 obtain ⟨h1, h2, h3⟩ := Zls lo hi its.toArray.size
 unfold slicePick
 rw [h1, h2, h3]
 simp only [sliceRange_one, pick_run, Xi] <;> rfl
nonrec def rSlL (K : Xa) : V -> Option Int -> Option Int -> Hp -> VK -> Prop := fun x lo hi H Q => ∃ a xs, x = .ref a ∧ SqL K H a xs ∧ ∀ p, H p = none -> Q (.ref p) (upd H p (.lst (Zvp xs lo hi)))
theorem Zw4 : SlR X (rSlL X.K) := by
 intro pins s σ H x v vl vu lo hi sl Q I rx hs pl pu h
 obtain ⟨a, xs, rfl, hx, q⟩ := h
 cases rx
 obtain ⟨its, r, ht, hz⟩ := I.list hx
 have hlen := r.length
 refine ⟨"list", _, slot_list_getitem.lookup, ht.isList.typeIs, ?_⟩
 refine wpAny_getItem_list_slice ht.isList hs pl pu .none (by simp) ?_ (by rw [Xi] <;> omega)
 rw [Zkn, ← hlen]
 refine ⟨.ref s.heap.objs.size, _, I.laid (t' := s.toks) (o := .lst (Zvp xs lo hi)) (fun b ob q => Xb _ q) (Xc _) ?_, rfl, q _ (I.hok.fresh (Xc _))⟩
 exact ⟨Xp (Zel xs lo hi) hz, _, 0, (r.drop (HT.sIx xs.length 0 lo)).take (HT.sIx xs.length xs.length hi - HT.sIx xs.length 0 lo), Xf _ rfl⟩
theorem Zl6 : Zhj X (.builtin "len") (fun xs H Q => ∃ p ys, xs = [.ref p] ∧ (SqL X.K H p ys ∨ SqT X.K H p ys) ∧ Q (.int ys.length) H) := by
 intro pins s σ H xs us Q I r h
 obtain ⟨p, ys, rfl, hq, q⟩ := h
 obtain ⟨u, rfl, rx⟩ := Zhl r
 cases rx
 have hn := Zle
 rcases hq with hq | hq
 ·obtain ⟨its, r', pl, hz⟩ := I.list hq
  have hlen := r'.length
  exact Calls.call_len_list pl.isList (by simp only [Xi] <;> omega) ⟨.int ys.length, H, I.tok _, ⟨s.toks + 1, by rw [Xi, hlen]⟩, q⟩
 ·obtain ⟨its, r', pl, hz⟩ := I.tuple hq
  have hlen := r'.length
  exact len_tuple pl (by simp only [Xi] <;> omega) ⟨.int ys.length, H, I.tok _, ⟨s.toks + 1, by rw [Xi, hlen]⟩, q⟩
theorem Zlm : Zhj X (.builtin "len") (fun xs H Q => ∃ z, xs = [.str z] ∧ z.length ≤ sizeLine ∧ Q (.int z.length) H) := by
 intro pins s σ H xs us Q I r h
 obtain ⟨z, rfl, hz, q⟩ := h
 obtain ⟨u, rfl, t, rfl⟩ := Zhl r
 have hn := Zle
 exact len_str (by omega) ⟨.int z.length, H, I.tok _, ⟨_, rfl⟩, q⟩
theorem Zmk : Zhj X (.type "list") (fun xs H Q => ∃ p ys, xs = [.ref p] ∧ (SqL X.K H p ys ∨ SqT X.K H p ys) ∧ ∀ l, H l = none → Q (.ref l) (upd H l (.lst ys))) := by
 intro pins s σ H xs us Q I r h
 obtain ⟨p, ys, rfl, hq, q⟩ := h
 obtain ⟨u, rfl, rx⟩ := Zhl r
 cases rx
 have fin : ∀ (its : List Vb), Zbp ys its -> ys.length ≤ sizeLine -> ∀ (h' : Vu) (c' : Nat), (∀ b o', s.heap.get? b = some o' -> h'.get? b = some o') →
   h'.get? s.heap.objs.size = some { cls := .type "list", dict := none, data := .seq its.toArray c', slots := #[] } → EP X pins σ Q (.ref s.heap.objs.size) { s with heap := h' } := fun its r' hz h' c' kp e =>
  ⟨.ref s.heap.objs.size, _, I.laid (t' := s.toks) kp (Xc _) (show Zdq X.prog X.w _ h' _ (.lst ys) from ⟨hz, its, c', r', e⟩), rfl, q _ (I.hok.fresh (Xc _))⟩
 rcases hq with hq | hq
 ·obtain ⟨its, r', pl, hz⟩ := I.list hq
  have hlen := r'.length
  obtain ⟨o, ho, hc, n, hd⟩ := pl.isList
  exact call_list_seq p (.inl rfl) ho hc hd (fun h' c' kp e => fin its r' hz h' c' kp e) (by simp only [Xi] <;> omega)
 ·obtain ⟨its, r', pl, hz⟩ := I.tuple hq
  have hlen := r'.length
  obtain ⟨o, ho, hc, n, hd⟩ := pl
  exact call_list_seq p (.inr rfl) ho hc hd (fun h' c' kp e => fin its r' hz h' c' kp e) (by simp only [Xi] <;> omega)
theorem Zkt : Zhj X (.type "tuple") (fun xs H Q => ∃ p ys, xs = [.ref p] ∧ ((SqL X.K H p ys ∧ ∀ l, H l = none → Q (.ref l) (upd H l (.tup ys))) ∨ (SqT X.K H p ys ∧ Q (.ref p) H))) := by
 intro pins s σ H xs us Q I r h
 obtain ⟨p, ys, rfl, h⟩ := h
 obtain ⟨u, rfl, rx⟩ := Zhl r
 cases rx
 rcases h with ⟨hq, q⟩ | ⟨hq, q⟩
 ·obtain ⟨its, r', pl, hz⟩ := I.list hq
  have hlen := r'.length
  refine call_tuple_list pl.isList (fun h' kp => ?_) (by simp only [Xi] <;> omega)
  have I1 : Inv X pins σ H { s with heap := h' } := I.kept (t' := s.toks) kp
  have I2 : Inv X pins σ (upd H h'.objs.size (.tup ys)) { s with heap := h'.push { cls := .type "tuple", data := .seq its.toArray } } :=
   I1.laid (t' := s.toks) (fun b o e => Xb _ e) (Xc _) (show Zdq X.prog X.w _ _ _ (.tup ys) from ⟨hz, its, r', Zjd.new _ _⟩)
  exact ⟨.ref h'.objs.size, _, I2, rfl, q _ (I1.hok.fresh (Xc _))⟩
 ·obtain ⟨its, r', pl, hz⟩ := I.tuple hq
  exact call_tuple_same pl ⟨.ref p, H, I, rfl, q⟩
def tyV (K : Xa) (T : String) (x : V) (H : Hp) : Prop := match x with
 | .str _ => T = "str"
 | .int _ => T = "int"
 | .ref p => (T = "list" ∧ ∃ xs, SqL K H p xs) ∨ (T = "tuple" ∧ ∃ o, K.lookup p = some o ∧ o.cls = .type "tuple" ∧ o.dict = none) ∨
   (T = "dict" ∧ ((∃ kvs, H p = some (.dK kvs)) ∨ ∃ kvs, H p = some (.dT kvs))) ∨ (T = "set" ∧ ∃ S n, H p = some (.set S n))
 | _ => False
theorem Yb4 {pins : List (Ve × Obj)} {σ : St} {H : Hp} {s : Vd} {T : String} {x : V} {v : Vb} (I : Inv X pins σ H s) (r : Zca x v) (ty : tyV X.K T x H) :
  s.TypeIs v T ∧ ∀ a, v = .ref a -> ∃ ob, s.heap.get? a = some ob ∧ ob.dict = none := by
 cases x with
 | str z =>
  obtain ⟨t, rfl⟩ := r
  cases (show T = "str" from ty)
  exact ⟨typeIs_str s z t, fun _ e => nomatch e⟩
 | int i =>
  obtain ⟨t, rfl⟩ := r
  cases (show T = "int" from ty)
  exact ⟨Ubr s i t, fun _ e => nomatch e⟩
 | ref p =>
  cases r
  rcases ty with ⟨rfl, xs, hq⟩ | ⟨rfl, o, hk, hc, hd⟩ | ⟨rfl, hk⟩ | ⟨rfl, S, n, hk⟩
  ·obtain ⟨its, _, pl, _⟩ := I.list hq
   refine ⟨pl.isList.typeIs, fun a e => ?_⟩
   cases e
   obtain ⟨o, n, e, c, hd, _⟩ := pl
   exact ⟨o, e, hd⟩
  ·refine ⟨⟨o, I.kIn p o hk, hc⟩, fun a e => ?_⟩
   cases e
   exact ⟨o, I.kIn _ o hk, hd⟩
  ·have z : ∃ o, s.heap.get? p = some o ∧ o.ExactDict := by
    rcases hk with ⟨kvs, hk⟩ | ⟨kvs, hk⟩
    ·obtain ⟨_, _, _, _, o, _, _, e, ex, _⟩ := I.hok p _ hk
     exact ⟨o, e, ex⟩
    ·obtain ⟨_, _, _, _, o, _, _, e, ex, _⟩ := I.hok p _ hk
     exact ⟨o, e, ex⟩
   obtain ⟨o, e, ex⟩ := z
   refine ⟨⟨o, e, ex.1⟩, fun a e2 => ?_⟩
   cases e2
   exact ⟨o, e, ex.2.1⟩
  ·obtain ⟨o, _, _, _, e, ex, _⟩ := I.hok p _ hk
   refine ⟨⟨o, e, ex.1⟩, fun a e2 => ?_⟩
   cases e2
   exact ⟨o, e, ex.2.1⟩
 | _ => exact Ue ty
nonrec def tBM (K : Xa) (T : String) (r : V -> List V -> Hp -> VK -> Prop) (to : TE) (t : TA) : TE := fun σ H Q => to σ H fun x H1 => tyV K T x H1 ∧ t σ H1 fun xs H2 => r x xs H2 Q
variable {o e : Vq} {es : List Vq} {to : TE} {t : TA} {name : Str} {apos cpos : Pos} {T id : String} {r : V -> List V -> Hp -> VK -> Prop}
theorem pe_bm (pa : PlainAttrs T) (slot : Slot T name id) (hty : typeOf (.builtin id) = pure (.type "method_descriptor")) (hm : MtR X id r) (ho : PE X o to) (ha : PA X (e :: es) t)
  (hbase : attributeBase o name X.env (eval o X.env) = eval o X.env := by rfl)
  (hfew : ((backTo cpos (starEach (e :: es) X.env)).all (fun x => !x.1) && (backToKw cpos (keywordEach [] X.env)).all (fun x => x.1.isSome)
   && decide ((e :: es).length + ([] : List Ubu).length + (if ([] : List Ubu).isEmpty then 0 else 1) < 30)) = true := by rfl)
  (hline : (apos.endLine == cpos.line) = true := by rfl) (hs : starEach (e :: es) X.env = (false, eval e X.env) :: starEach es X.env := by rfl) (hplain : (backTo cpos (starEach es X.env)).any (·.1) = false := by rfl) :
  PE X (.Call (.Attribute o name apos) (e :: es) [] cpos) (tBM X.K T r to t) := by
 intro pins s σ H Q I h
 refine wpAny_Call_method_late hbase hfew hline rfl (thn (ho pins s σ H _ I h) fun v s1 zz => ?_)
 obtain ⟨x, H1, I1, r1, ty, q1⟩ := zz
 obtain ⟨h1, h2⟩ := Yb4 I1 r1 ty
 refine ⟨T, id, pa, slot, hty, h1, h2, ?_⟩
 have hA := ha cpos pins s1 σ H1 _ I1 q1
 rw [hs] at hA ⊢
 refine Calls.callWith_builtin (by show (false || (backTo cpos (starEach es X.env)).any (·.1)) = false; rw [hplain] <;> rfl) (Calls.evalArgs_plain ?_)
 exact thn hA fun us s2 ⟨vs, H2, I2, r2, q2⟩ => hm pins s2 σ H2 x vs v us Q I2 r1 r2 q2
end
def MtM (X : Cx) (id : String) (r : V -> List V -> Hp -> VK -> Prop) : Prop :=
 ∀ (pins : List (Ve × Obj)) (s : Vd) (σ : St) (H : Hp) (x : V) (xs : List V) (v : Vb) (us : List Vb) (Q : VK), Inv X pins σ H s -> Zca x v -> Zbp xs us -> r x xs H Q →
  wpAny (model X.prog X.w) X.A (call (.builtin id) (v :: us)) (EP X pins σ Q) X.xe s
theorem Zbp.one : ∀ {x : V} {us : List Vb}, Zbp [x] us -> ∃ u, us = [u] ∧ Zca x u := by
 intro x us h
 cases h with
 | cons r t => cases t; exact ⟨_, rfl, r⟩
theorem Zbp.reverse {xs : List V} {us : List Vb} (h : Zbp xs us) : Zbp xs.reverse us.reverse := by
 induction h with
 | nil => exact .nil
 | cons r t ih => rw [Wcx, Wcx]; exact Zbp.append ih (.cons r .nil)
theorem Zbp.rep {xs : List V} {us : List Vb} (h : Zbp xs us) : ∀ k : Nat, Zbp (Xg k xs).flatten (Xg k us).flatten
 | 0 => .nil
 | k + 1 => by
  rw [Wax, Wax, Wbr, Wbr]
  exact Zbp.append h (Zbp.rep h k)
theorem Ziz (its : List Vb) : ∀ (k : Nat) (acc : List Vb),
  Wdo (fun x1 x2 => x1 ++ x2) acc.toArray (Xg k its.toArray) = (acc ++ (Xg k its).flatten).toArray
 | 0, acc => by simp
 | k + 1, acc => by
  have e : acc.toArray ++ its.toArray = (acc ++ its).toArray := by simp
  have e2 : (acc ++ its) ++ (Xg k its).flatten = acc ++ (Xg (k + 1) its).flatten := by
   rw [Wax, Wbr, Wcy]
  rw [← e2, ← Ziz its k (acc ++ its), ← e, Wax, List.foldl_cons]
section
variable {X : Cx} {pins : List (Ve × Obj)} {σ : St} {H : Hp} {s : Vd} {l b : Ve} {xs ys zs : List V}
theorem Inv.lset {its its' : List Vb} {n : Nat} {f : Array Vb -> Array Vb} {t' : Nat} (I : Inv X pins σ H s) (hH : H l = some (.lst xs))
  (e : s.heap.get? l = some { cls := .type "list", data := .seq its.toArray n }) (hf : f its.toArray = its'.toArray) (hv : Zbp ys its') (hz : ys.length ≤ sizeLine) :
  Inv X pins σ (upd H l (.lst ys)) { s with heap := s.heap.update l (Tbf f), toks := t' } := by
 have q := PySem.IsL.update e f
 rw [hf] at q
 refine I.write (x := l) (e := l) (by rw [hH]; exact trivial) (.inl rfl) (fun b' u hb hu => (Waw s.heap (Tbf f) (Ui hb)).trans hu) ⟨_, q⟩ ?_
 exact ⟨hz, its', _, hv, q⟩
theorem Inv.lnew {its : List Vb} {t' : Nat} (I : Inv X pins σ H s) (hv : Zbp ys its) (hz : ys.length ≤ sizeLine) :
  Inv X pins σ (upd H s.heap.objs.size (.lst ys)) { s with heap := s.heap.push { cls := .type "list", data := .seq its.toArray }, toks := t' } :=
 I.laid (fun _ _ q => Xb _ q) (Xc _) ⟨hz, its, 0, hv, Xf _ rfl⟩
theorem Inv.fresh (I : Inv X pins σ H s) : H s.heap.objs.size = none := I.hok.fresh (Xc _)
theorem Inv.lstM (I : Inv X pins σ H s) (hH : H l = some (.lst xs)) : xs.length ≤ sizeLine ∧ ∃ (its : List Vb) (n : Nat), Zbp xs its ∧ xs.length = its.length ∧ s.heap.get? l = some { cls := .type "list", data := .seq its.toArray n } := by
 obtain ⟨z, its, n, r, e⟩ := I.hok l _ hH
 exact ⟨z, its, n, r, r.length, e⟩
theorem Zuu {n : Nat} (h : n ≤ sizeLine) : Tar n = false := by
 unfold Tar
 exact decide_eq_false (by omega)
end
section
variable {X : Cx}
nonrec def Zy0 : V -> List V -> Hp -> VK -> Prop := fun x vs H Q => ∃ l xs y, x = .ref l ∧ vs = [y] ∧ H l = some (.lst xs) ∧ xs.length < sizeLine ∧ Q .non (upd H l (.lst (xs ++ [y])))
theorem Zlt : MtM X "list.append" Zy0 := by
 intro pins s σ H x vs v us Q I rx rv h
 obtain ⟨l, xs, y, rfl, rfl, hH, hz, q⟩ := h
 cases rx
 obtain ⟨u, rfl, ru⟩ := rv.one
 obtain ⟨z, its, n, r, hl, e⟩ := I.lstM hH
 refine Uat F.slot_list_append ⟨_, e, rfl⟩ F.entry_list_append (F.args_list_append_2 _ _) (PySem.list_append l its.toArray n u (by rw [Xi]; omega)) ⟨e, ?_⟩
 refine ⟨.non, _, I.lset (its' := its ++ [u]) hH e (by simp) (r.append (.cons ru .nil)) ?_, rfl, q⟩
 rw [Wap, Wea]
 omega
nonrec def rCat : R2 := fun x y H Q => ∃ l b xs zs, x = .ref l ∧ y = .ref b ∧ H l = some (.lst xs) ∧ H b = some (.lst zs) ∧ xs.length + zs.length ≤ sizeLine ∧ ∀ p, H p = none -> Q (.ref p) (upd H p (.lst (xs ++ zs)))
theorem Yca : OpR X (binaryOp .Add) rCat := by
 intro pins s σ H x y v u Q I rx ry h
 obtain ⟨l, b, xs, zs, rfl, rfl, hH, hB, hz, q⟩ := h
 cases rx
 cases ry
 obtain ⟨z, its, n, r, hl, e⟩ := I.lstM hH
 obtain ⟨z2, its2, n2, r2, hl2, e2⟩ := I.lstM hB
 refine PySem.P.add_list e e2 ?_ (by rw [Xi, Xi]; omega)
 have ea : its.toArray ++ its2.toArray = (its ++ its2).toArray := by simp
 rw [ea]
 exact ⟨.ref _, _, I.lnew (t' := s.toks) (r.append r2) (by rw [Wap]; omega), rfl, q _ I.fresh⟩
nonrec def rRep : R2 := fun x y H Q => ∃ l k xs, x = .ref l ∧ y = .int k ∧ H l = some (.lst xs) ∧ -(2 ^ 63) ≤ k ∧ k < 2 ^ 63 ∧ xs.length * k.toNat ≤ sizeLine ∧
 ∀ p, H p = none -> Q (.ref p) (upd H p (.lst (Xg k.toNat xs).flatten))
theorem Zm2 {α : Type} (xs : List α) (k : Nat) : (Xg k xs).flatten.length = k * xs.length := by
 induction k with
 | zero => simp
 | succ k ih => rw [Wax, Wbr, Wap, ih, Nat.succ_mul, Nat.add_comm]
theorem Zzo : OpR X (binaryOp .Mult) rRep := by
 intro pins s σ H x y v u Q I rx ry h
 obtain ⟨l, k, xs, rfl, rfl, hH, h1, h2, hz, q⟩ := h
 cases rx
 obtain ⟨t, rfl⟩ := ry
 obtain ⟨z, its, n, r, hl, e⟩ := I.lstM hH
 have hlen : its.toArray.size * k.toNat ≤ sizeLine := by rw [Xi, ← hl]; exact hz
 have hcap : ¬ its.toArray.size * k.toNat > (2 ^ 63 - 1) / 8 := by
  have : (sizeLine : Nat) ≤ (2 ^ 63 - 1) / 8 := by decide
  omega
 have hfit : ¬ (!Builtin.List.listFitsIndex k) = true := by
  rw [fitsIndex_both h1 h2]
  exact Wai
 have hlong : ¬ Tar (its.toArray.size * k.toNat) = true := by
  rw [Zuu hlen]
  exact Wai
 have hnew : Wdo (fun x1 x2 => x1 ++ x2) #[] (Xg (if its.toArray.isEmpty = true then 0 else k.toNat) its.toArray) = (Xg k.toNat its).flatten.toArray := by
  have f0 : ∀ m : Nat, Wdo (fun x1 x2 => x1 ++ x2) #[] (Xg m its.toArray) = (Xg m its).flatten.toArray := fun m => by
   have := Ziz its m []
   rw [Wcn] at this
   exact this
  rw [f0]
  cases its with
  | nil => simp
  | cons a r' => rw [if_neg (by simp)]
 refine Uba (T := "list") (U := "int") (by decide) ⟨_, e, rfl⟩ (fun s' => Ubr s' k t) noFill_list_mul F.fills_int_mul Tbg repeat_list F.slot_int_index.lookup
  (Uat Tbg (Ubr s k t) F.entry_int_rmul (F.args_int_rmul_2 _ _) (int___rmul___int_list k t l its.toArray n)
   ⟨e, rfl, ⟨_, e, rfl⟩, Uat F.slot_list_mul ⟨_, e, rfl⟩ F.entry_list_mul (F.args_list_mul_2 _ _) (AutoListH.list___mul___list_int_3 l its.toArray n k t hfit hcap hlong) ⟨e, ?_⟩⟩)
 rw [hnew]
 exact ⟨.ref _, _, I.lnew (t' := s.toks) (r.rep k.toNat) (by rw [Zm2, Web]; exact hz), rfl, q _ I.fresh⟩
end
section
variable {prog : Vf} {w : Vk} {A : Vo} {E : Vb -> Vd -> Prop} {s : Vd}
set_option maxRecDepth 100000 in
end
end L2
namespace Att
open PySem PySem.W PySem.Calls PyProof.Rows
theorem Zi1 {P : Params} {h : Vu} : ∀ (ns : List Int) (vs : List Vb), WellAll P h vs (ns.map WData.int) -> Uak vs ns := by
 intro ns
 induction ns with
 | nil =>
  intro vs w
  rw [List.map_nil] at w
  cases w
  exact .nil
 | cons n ns ih =>
  intro vs w
  rw [Xr] at w
  cases w with
  | cons a b =>
   cases a
   exact .cons _ _ (ih _ b)
theorem Zrs {l : OpenLaw} {n : Nat} (hn : l.most = some n) {P : Params} {h : Vu} {args : List WData} {vals : List Vb}
  (hpre : l.row.toRowW.claim.pre args = true) (hwl : WellAll P h vals args) :
  ∃ a vs ns, vals = [Ud a] ∧ args = [WData.list (ns.map WData.int)] ∧ h.get? a = some { cls := .type "list", data := .seq vs.toArray } ∧ Uak vs ns ∧ ns.length ≤ n := by
 have hsh : WShape.hasAll [] args [.list .int] = true := (pre_splitW hpre).1
 have hc : l.pre.holds [] { args := args } = true := (pre_splitW hpre).2
 obtain ⟨d, r, rfl, h1, h2⟩ := hasAllW_cons hsh
 obtain rfl := hasAllW_nil h2
 obtain ⟨xs, rfl, h3⟩ := hasW_list h1
 obtain ⟨ns, rfl⟩ := items_int h3
 have hlen : ns.length ≤ n := by
  unfold OpenLaw.pre at hc
  have h4 : (WTm.not (.lt (.lit (.int (n : Int))) (.len (.arg 0)))).holds [] { args := [.list (ns.map .int)] } = true := by
   have h4 := (holds_andW hc).1
   rw [hn] at h4
   exact h4
  have h5 := condW_of h4 (w_not (w_lt w_lit (w_len_list (w_arg rfl))))
  rw [Xk] at h5
  refine Nat.le_of_not_lt fun q => ?_
  have q' : (n : Int) < ((ns.length : Nat) : Int) := by omega
  first
   | (rw [decide_eq_true q'] at h5; exact absurd h5 (by decide))
   | (simp at h5; omega)
 cases hwl with
 | cons w1 w2 =>
  cases w2
  cases w1 with
  | list ho hall => exact ⟨_, _, ns, rfl, rfl, ho, Zi1 ns _ hall, hlen⟩
theorem Zru (l : OpenLaw) (args : List WData) : l.row.toRowW.claim.post args (.bool true) args = true :=
 postW_of (r := l.row.toRowW) (X := (true == true))
  (show WShape.has [] (.bool true) .bool = true by first | rfl | decide | simp [WShape.has, WShape.arms, WShape.armsAll])
  (show (WTm.eq .res (.lit (.bool true))).value [] { args := args, res := some (.bool true), after := args } = some (.bool (true == true)) from w_eq_bool (w_res rfl) w_lit) rfl
theorem attach_call {l : OpenLaw} {n : Nat} {q : Vf} {loose : List Str} {XP : (Str -> Option Vb) -> Vu -> Prop} {YP : Vk -> Vu -> Prop} {d : DefRec}
  (hn : l.most = some n) (hdf : d.params.defaults = [])
  (call : ∀ (w : Vk) (s₀ s₁ : Vd) (mg mb : Str -> Option Vb) (fa : Ve) (o : Obj) (pm cd doc : Vb) (a : Ve) (vs : List Vb) (ns : List Int),
   Ground q loose [] XP w s₀ mg mb s₁.heap -> YP w s₁.heap →
   s₁.heap.get? fa = some o -> o.data = .func (docDef d.name d.params d.body d.scope pm cd doc) -> s₁.heap.CodeRec cd d.name -> mg d.name = some (.ref fa) →
   s₁.heap.get? a = some { cls := .type "list", data := .seq vs.toArray } → Uak vs ns → ns.length ≤ n → s₁.gens = #[] →
   codeAny (model l.prog w) callerA (.call (.ref fa) ⟨[.ref a], []⟩) (fun r s' => r = .ok (.ret (.bool true)) ∧ OldK s₁.heap s'.heap ∧ s'.os = s₁.os ∧ Uau s'.gens) s₁) :
  WalkO q loose XP YP l.row.toRowW d [] (fun f vs => Tce f vs) := by
 intro w s₀ s₁ mg mb G Y fa o pm cd doc dV kV ho hd hcd hD hmg hg args vals as hpre hlay hrd hwl hlo
 obtain rfl : dV = .none := Dflts.none hD hdf
 obtain rfl : kV = .none := Dflts.noKw hD
 obtain ⟨a, vs, ns, rfl, rfl, hobj, hints, hlen⟩ := Zrs hn hpre hwl
 refine enter_call (Uad (call w s₀ s₁ mg mb fa o pm cd doc a vs ns G Y ho (fd_plain hd) hcd hmg hobj hints hlen hg) fun r s' hq => ?_)
 obtain ⟨rfl, h2, h3, h4⟩ := hq
 exact ⟨.inl ⟨.bool true, .bool true, [], rfl, fun _ => rfl, .bool true, Zru l _, fun _ => ⟨List.Pairwise.nil, fun _ hm => (nomatch hm)⟩⟩, h2, h3, h4⟩
end Att
namespace L2
open PySem PySem.Spec PyProof.Rows
theorem Zma : ∀ {vs : List Vb} {ns : List Int}, Uak vs ns -> Zbp (ns.map V.int) vs
 | _, _, .nil => .nil
 | _, _, .cons n t h => .cons ⟨t, rfl⟩ (Zma h)
def Zzq (H : Hp) : Prop := ∀ b, H b = none ∨ ∃ o xs, H b = some (.frz o (.lst xs))
theorem Zuv {P : Vf} {w : Vk} {K : Xa} {mg mb : Str -> Option Vb} {CX : CXT} {k : Nat} {fa a : Ve} {fd : Vy} {x : Str} {sp : Sp} {s₁ : Vd} {vs : List Vb} {ns : List Int}
  (KX : K.In s₁.heap) (hns : s₁.heap.Ns mainGlobals mg) (hb : s₁.heap.Ns builtinsNs mb) (hbb : ∀ x : Str, x ≠ "__name__" → mb x = bootBuiltins x) (hlim : s₁.heap.NoLimit) (hg : s₁.gens = #[])
  (ha : s₁.heap.get? a = some { cls := .type "list", data := .seq vs.toArray }) (hi : Uak vs ns) (hl : ns.length ≤ sizeLine) (hr : Room k callerA)
  (F : ∀ base : Vu, K.In base -> base.Ns mainGlobals mg -> FnOk P w K mg base CX k fa fd [x] sp) (hbind : ∀ (s : Vd) (u : Vb), BindsTo s fd ⟨[u], []⟩ [(x, u)])
  (hsp : ∀ H : Hp, Zzq H -> SqL K H a (ns.map V.int) -> sp [.ref a] H (fun v _ => v = .bl true) fun _ _ _ => False)
  (hCX : ∀ H e s', CX [] H s₁ (fun _ _ _ => False) e s' -> False) :
  codeAny (model P w) callerA (.call (.ref fa) ⟨[.ref a], []⟩) (fun r s' => r = .ok (.ret (.bool true)) ∧ OldK s₁.heap s'.heap ∧ s'.os = s₁.os ∧ Uau s'.gens) s₁ := by
 have rv := Zma hi
 have lenV := hi.length
 -- from an abstract heap in which nothing but the script may be tracked
 have core : ∀ H : Hp, Zzq H -> SqL K H a (ns.map V.int) -> HOk P w H s₁.heap -> (∀ b, H b ≠ none -> b = a) -> (H a ≠ none -> K.lookup a = none) →
   codeAny (model P w) callerA (.call (.ref fa) ⟨[.ref a], []⟩) (fun r s' => r = .ok (.ret (.bool true)) ∧ OldK s₁.heap s'.heap ∧ s'.os = s₁.os ∧ Uau s'.gens) s₁ := by
  intro H hO hS hok hA hK
  have base_of : ∀ {b : Ve} {o : Obj}, s₁.heap.get? b = some o -> H b = none -> (Zt7 s₁.heap H).get? b = some o := fun e n => Ztr e n
  have noA : ∀ {b : Ve} {o : Obj} {es : Array Uab} {ep : Nat}, s₁.heap.get? b = some o -> o.data = .dict es ep -> H b = none := fun {b o es ep} e d => by
   cases q : H b with
   | none => rfl
   | some u =>
    have e' : b = a := hA b (by rw [q]; simp)
    subst e'
    rw [ha] at e; cases e
    have d' : Data.seq vs.toArray _ = Data.dict es ep := d
    cases d'
  have nsK : ∀ {b : Ve} {m : Str -> Option Vb}, s₁.heap.Ns b m -> (Zt7 s₁.heap H).Ns b m := fun {b m} ⟨o, es, ep, e, d, r⟩ => ⟨o, es, ep, base_of e (noA e d), d, r⟩
  have hKb : K.In (Zt7 s₁.heap H) := fun b o e => base_of (KX b o e) (by
   cases q : H b with
   | none => rfl
   | some u =>
    have e' : b = a := hA b (by rw [q]; simp)
    subst e'
    rw [hK (by rw [q]; simp)] at e; cases e)
  have hM : Mod K mg (Zt7 s₁.heap H) := ⟨hKb, nsK hns, ⟨mb, nsK hb, hbb⟩, let ⟨mc, h1, h2⟩ := hlim; ⟨mc, nsK h1, h2⟩⟩
  have e0 : Env0 P w K mg (Zt7 s₁.heap H) callerA [] s₁ H := ⟨rfl, hM, fun b o e => Zw6 e, Nat.le_of_eq (Ztb _ _), trivial, fun b hb => absurd (show b ∈ ([] : List Ve) from hb) (by simp), hok, .of_eq hg⟩
  refine Uad ((F _ hKb (nsK hns)).run callerA [] s₁ H ⟨[.ref a], []⟩ [.ref a] [.ref a] _ _ hr e0 (hbind s₁ (.ref a)) (.cons rfl .nil) (hsp H hO hS)) fun r s' h => ?_
  cases r with
  | error e => exact (hCX H e s' h).elim
  | ok fl =>
   cases fl with
   | next => exact Ue h
   | brk => exact Ue h
   | cont => exact Ue h
   | ret u =>
    obtain ⟨v, H', os, bare, un, hok', r', q⟩ := h
    have q' : v = .bl true := q
    subst q'
    obtain rfl : u = Tcd true := r'
    refine ⟨rfl, OldK.of_keep fun b o e => ?_, os, bare⟩
    cases q : H b with
    | none => exact un.keep b o e q (by intro z; exact absurd (show b ∈ ([] : List Ve) from z) (by simp)) (by simp)
    | some u =>
     rcases hO b with z | ⟨ob, xs, z⟩
     ·rw [q] at z; cases z
     ·have z2 := un.frzs b ob _ z
      obtain ⟨e1, _⟩ := hok b _ z
      obtain ⟨e2, _⟩ := hok' b _ z2
      rw [e] at e1; cases e1
      exact e2
 cases hk : K.lookup a with
 | some o =>
  -- the script is one of the module's own objects
  have e := KX a o hk
  rw [ha] at e
  cases e
  refine core (fun _ => none) (fun _ => .inl rfl) (.inr ⟨_, vs.toArray, _, hk, rfl, rfl, rfl, by rw [Xi, lenV]; exact hl, by simpa using rv⟩) (fun b u z => by have z' : (none : Option HO) = some u := z; cases z') (fun b z => absurd rfl z) fun z => absurd rfl z
 | none =>
  refine core (fun b => if b = a then some (.frz { cls := .type "list", data := .seq vs.toArray } (.lst (ns.map V.int))) else none) (fun b => ?_) (.inl (.inr ⟨{ cls := .type "list", data := .seq vs.toArray }, if_pos rfl⟩)) (fun b u z => ?_) (fun b z => ?_) fun _ => hk
  ·by_cases hb : b = a
   ·exact .inr ⟨_, _, if_pos hb⟩
   ·exact .inl (if_neg hb)
  ·by_cases hb : b = a
   ·have z' := (if_pos hb).symm.trans z
    cases z'
    subst hb
    exact ⟨ha, by rw [Xk]; exact hl, vs, _, rv, ha⟩
   ·have z' := (if_neg hb).symm.trans z
    cases z'
  ·by_cases hb : b = a
   ·exact hb
   ·exact absurd (if_neg hb) z
nonrec abbrev KOf {K : Xa} {h : Vu} (_ : K.In h) : Xa := K
theorem Zw0 {l : PySem.W.OpenLaw} {n k : Nat} {q : Vf} {loose : List Str} {XP : (Str -> Option Vb) -> Vu -> Prop} {YP : Vk -> Vu -> Prop} {d : DefRec} {K : Params -> Xa} {CX : Vk -> CXT} {sp : Vk -> Sp} {x : Str}
  (hn : l.most = some n) (hn2 : n ≤ sizeLine) (hdf : d.params.defaults = []) (hr : Room k callerA)
  (hY : ∀ (w : Vk) (h : Vu), YP w h -> (K w.params).In h)
  (F : ∀ (w : Vk) (mg : Str -> Option Vb) (fa : Ve) (h : Vu), (K w.params).In h -> h.Ns mainGlobals mg -> mg d.name = some (.ref fa) →
   ∃ fd : Vy, (∀ (s : Vd) (u : Vb), BindsTo s fd ⟨[u], []⟩ [(x, u)]) ∧
    ∀ base : Vu, (K w.params).In base -> base.Ns mainGlobals mg -> FnOk l.prog w (K w.params) mg base (CX w) k fa fd [x] (sp w))
  (hsp : ∀ (w : Vk) (H : Hp) (a : Ve) (ns : List Int), ns.length ≤ n -> Zzq H -> SqL (K w.params) H a (ns.map V.int) -> sp w [.ref a] H (fun v _ => v = .bl true) fun _ _ _ => False)
  (hCX : ∀ (w : Vk) (H : Hp) (s : Vd) (e : Vb) (s' : Vd), CX w [] H s (fun _ _ _ => False) e s' -> False) :
  Wet q loose XP YP l.row.toRowW d [] (fun f vs => Tce f vs) := by
 refine Att.attach_call hn hdf fun w s₀ s₁ mg mb fa o pm cd doc a vs ns G Y ho hd hcd hmg hobj hints hlen hg => ?_
 have KX := hY w _ Y
 obtain ⟨fd, hb, hF⟩ := F w mg fa _ KX G.T.g hmg
 exact Zuv KX G.T.g G.T.b G.T.builtins G.T.nolimit hg hobj hints (Xp hlen hn2) hr hF hb (fun H hO hS => hsp w H a ns hlen hO hS) fun H e s' => hCX w H s₁ e s'
theorem walk_ofK {l : PySem.W.OpenLaw} {n k : Nat} {q : Vf} {loose : List Str} {XP : (Str -> Option Vb) -> Vu -> Prop} {YP : Vk -> Vu -> Prop} {d : DefRec} {K : Params -> Xa} {CX : CXT} {sp : Xa -> Sp} {x : Str}
  (hn : l.most = some n) (hn2 : n ≤ sizeLine) (hdf : d.params.defaults = []) (hr : Room k callerA)
  (hY : ∀ (w : Vk) (h : Vu), YP w h -> (K w.params).In h)
  (F : ∀ (w : Vk) (mg : Str -> Option Vb) (fa : Ve) (h : Vu), (K w.params).In h -> h.Ns mainGlobals mg -> mg d.name = some (.ref fa) →
   ∃ fd : Vy, (∀ (s : Vd) (u : Vb), BindsTo s fd ⟨[u], []⟩ [(x, u)]) ∧
    ∀ base : Vu, (K w.params).In base -> base.Ns mainGlobals mg -> FnOk l.prog w (K w.params) mg base CX k fa fd [x] (sp (K w.params)))
  (hsp : ∀ (K : Xa) (H : Hp) (a : Ve) (ns : List Int), ns.length ≤ n -> Zzq H -> SqL K H a (ns.map V.int) -> sp K [.ref a] H (fun v _ => v = .bl true) fun _ _ _ => False)
  (hCX : ∀ (H : Hp) (s : Vd) (e : Vb) (s' : Vd), CX [] H s (fun _ _ _ => False) e s' -> False) :
  Wet q loose XP YP l.row.toRowW d [] (fun f vs => Tce f vs) :=
 Zw0 (K := K) (CX := fun _ => CX) (sp := fun w => sp (K w.params)) hn hn2 hdf hr hY F (fun w H a ns h1 h2 h3 => hsp (K w.params) H a ns h1 h2 h3) fun _ H s e s' => hCX H s e s'
nonrec def Zev (s : Vw) : Arguments := match s with
 | .FunctionDef _ a _ _ _ _ _ _ _ _ => a
 | _ => { posonlyargs := [], args := [], vararg := none, kwonlyargs := [], kw_defaults := [], kwarg := none, defaults := [] }
nonrec def Zb7 (s : Vw) : List Vw := match s with
 | .FunctionDef _ _ b _ _ _ _ _ _ _ => b
 | _ => []
nonrec def Zad (s : Vw) : Ubi := match s with
 | .FunctionDef _ _ _ _ _ _ sc _ _ _ => sc
 | _ => { kind := .function, names := [], isGenerator := false, isCoroutine := false }
nonrec abbrev CX0 : CXT := fun _ _ _ _ _ _ => False
nonrec abbrev E0 : XK := fun _ _ _ => False
theorem Zzx {X : Cx} : Zrw CX0 X E0 := fun _ _ _ _ _ _ _ h => h.elim
structure Fun (K : Xa) (x qual : Str) (st : Vw) (f : Ve) (fd : Vy) : Prop where
 ex : ∃ (oc : Vb) (od : Option Ve) (kV doc pm : Vb) (an : Option Ve) (cdv ct : Vb) (osl : Array (Option Vb)),
  fd = Wbp x qual (Zev st) (Zb7 st) (Zad st) .none kV doc pm an cdv ct ∧ K.lookup f = some ⟨oc, od, .func fd, osl⟩ ∧ Wda K cdv qual = true
 kp : Waz K (.ref f) = true
section
variable {P : Vf} {w : Vk} {K : Xa} {mg : Str -> Option Vb} {base : Vu}
theorem Fun.ok {x qual : Str} {st : Vw} {f : Ve} {fd : Vy} {N ps : List Str} {k : Nat} {sp : Sp} (F : Fun K x qual st f fd) (S : FnScope N ps (Zad st)) (len : ∀ vs H Q E, sp vs H Q E -> vs.length = ps.length)
  (hbody : ∀ (cdv : Vb) (A : Vo) (outer : List Env) (s : Vd) (H : Hp) (vs : List V) (Q : VK) (E : XK), Room k (A.deeper (envOfC qual (Zad st) s.heap.objs.size f cdv)) -> sp vs H Q E →
   ∃ t, PSs (Zfy CX0 P w K mg base N qual (Zad st) f cdv A outer s H E).nox (Zb7 st) t ∧ t { nx := fun _ H' => Q .non H', rt := Q } (start N vs) H) : FnOk P w K mg base CX0 (k + 1) f fd ps sp := by
 obtain ⟨oc, od, kV, doc, pm, an, cdv, ct, osl, rfl, lk, hcd⟩ := F.ex
 refine Zzy lk hcd S len fun A outer s H vs Q E hr hsp => ?_
 obtain ⟨t, h, q⟩ := hbody cdv A outer s H vs Q E hr hsp
 exact ⟨t, h.nox, q⟩
theorem Fun.binds {x qual : Str} {st : Vw} {f : Ve} {fd : Vy} {ps : List Str} (F : Fun K x qual st f fd)
  (h : ∀ (kV doc pm : Vb) (an : Option Ve) (cdv ct : Vb) (us : List Vb), us.length = ps.length -> bindArgs (Wbp x qual (Zev st) (Zb7 st) (Zad st) .none kV doc pm an cdv ct) ⟨us, []⟩ = pure (ps.zip us)) : Zfl K fd ps [] := by
 obtain ⟨oc, od, kV, doc, pm, an, cdv, ct, osl, rfl, lk, hcd⟩ := F.ex
 exact .all (h kV doc pm an cdv ct)
theorem Zwr {x qual : Str} {st : Vw} {f : Ve} {oc : Vb} {od an : Option Ve} {osl : Array (Option Vb)} {kV doc pm cdv ct : Vb} (l : K.lookup f = some ⟨oc, od, .func (Wbp x qual (Zev st) (Zb7 st) (Zad st) .none kV doc pm an cdv ct), osl⟩)
  (c : Wda K cdv qual = true) (k : Waz K (.ref f) = true) : Fun K x qual st f (Wbp x qual (Zev st) (Zb7 st) (Zad st) .none kV doc pm an cdv ct) := ⟨⟨oc, od, kV, doc, pm, an, cdv, ct, osl, rfl, l, c⟩, k⟩
end
section
variable {X : Cx}
theorem pv (i : Nat) {x : Str} {pos : Pos} (hN : X.N[i]? = some x := by rfl) (hv : Vis X.env.scope x := by first | exact Or.inl rfl | exact Or.inr (Or.inl rfl) | exact Or.inr (Or.inr rfl)) (hd : (x == ("__debug__" : Str)) = false := by decide)
  (hcd : (x == ("__classdict__" : Str)) = false := by decide) : PE X (.Name x pos) (tVar i) := Zgg hN hv hd hcd
end
end L2
set_option maxHeartbeats 4000000
set_option autoImplicit false
namespace DL
open PySem PySem.Spec PyProof.Rows L2
nonrec def Zyp : Vb -> Option Int
 | .int i _ => some i
 | .bool b => some (if b then 1 else 0)
 | _ => none
nonrec def Zst (k : Int) (v : Vb) : Bool := Zyp v == some k
theorem Zeh {k : Int} {v : Vb} (h : Zst k v = true) : (∃ t, v = .int k t) ∨ ∃ b, v = .bool b ∧ k = (if b then 1 else 0) := by
 have h : Zyp v = some k := eq_of_beq h
 cases v with
 | int i t => exact .inl ⟨t, by cases h; rfl⟩
 | bool b => exact .inr ⟨b, rfl, (Waa.inj h).symm⟩
 | _ => cases h
section
variable {prog : Vf} {w : Vk} {A : Vo} {E : Vb -> Vd -> Prop} {s : Vd}
theorem Znd {b : Bool} {Q : Int -> Vd -> Prop} (h : Q (hashInt (if b then 1 else 0)) { s with toks := s.toks + 1 }) : wpAny (model prog w) A (pyHash (.bool b)) Q E s := by
 have hr := rawHash_range (if b then 1 else 0)
 have tb : s.TypeIs (.bool b) "bool" := rfl
 unfold pyHash
 have hv : [Tcd b].any Value.onHeap = false := rfl
 refine Va ?_
 rw [cRoomFor, if_neg (by rw [hv]; exact Wai)]; refine Vc ?_
 refine Va (wpAny_specialOf tb Tbc.lookup ?_)
 show wpAny _ _ (if (some (Us "int.__hash__") == some Ur) = true then _ else _) Q E s
 rw [if_neg (by rw [beq_builtin_none]; exact Wai)]
 refine Va (wpAny_specialOf tb Tbc.lookup ?_)
 show wpAny _ _ (callSpecialIfBoundUnlessNone? (.bool b) "__hash__" _ >>= _) Q E s
 refine Va (wpAny_callSpecialIfBoundUnlessNone?_slot tb Tbc
  (Vl Tbc tb entry_int_hash
   (show wpAny _ _ (do ret (← mkInt (rawHash (if b then 1 else 0)))) _ _ s from wpAny_ret_mkInt ?_) (args_int_hash _)))
 show wpAny _ _ (if (decide (-(2 : Int) ^ 63 ≤ rawHash (if b then 1 else 0)) && decide (rawHash (if b then 1 else 0) < 2 ^ 63)) = true then _ else _) Q E _
 rw [if_pos (by rw [decide_eq_true hr.1, decide_eq_true hr.2]; rfl)]
 exact Vc h
end
nonrec def Zkh (prog : Vf) (w : Vk) : KeyKind prog w Int where
 is := Zst
 hash := hashInt
 inj := fun v a b ha hb => by
  unfold Zst at ha hb
  have := (eq_of_beq ha).symm.trans (eq_of_beq hb)
  exact Waa.inj this
 byValue := fun k v h => by rcases Zeh h with ⟨t, rfl⟩ | ⟨b, rfl, _⟩ <;> rfl
 pyHash := fun hv h => by
  rcases Zeh hv with ⟨t, rfl⟩ | ⟨b, rfl, rfl⟩
  ·exact wpAny_pyHash_int h
  ·exact Znd h
 eqBool := fun {A E s a b u v Q} hu hv h => by
  rcases Zeh hu with ⟨t, rfl⟩ | ⟨c, rfl, rfl⟩ <;> rcases Zeh hv with ⟨t', rfl⟩ | ⟨c', rfl, rfl⟩
  ·exact wpAny_eqBool_int h
  ·exact PySem.SeqAt.EqAt.int_bool _ _ _ prog w E Q h
  ·exact PySem.SeqAt.EqAt.bool_int _ _ _ prog w E Q h
  ·refine PySem.SeqAt.EqAt.bool_bool _ _ prog w E Q ?_
   have e : (c == c') = decide ((if c then (1 : Int) else 0) = (if c' then 1 else 0)) := by cases c <;> cases c' <;> rfl
   rw [e]; exact h
 «strs» := fun k x t v h => by simp [Zst, Zyp] at h
nonrec def iIsz (k : Int) (v : Vb) : Bool := match v with
 | .int i _ => i == k
 | _ => false
theorem Zjo {k : Int} {v : Vb} (h : iIsz k v = true) : ∃ t, v = .int k t := by
 cases v with
 | int i t => exact ⟨t, by rw [eq_of_beq (show (i == k) = true from h)]⟩
 | _ => cases h
theorem Zmb {k : Int} {t : Tok} : iIsz k (.int k t) = true := beq_self_eq_true k
theorem Ze7 {k : Int} {v : Vb} (h : iIsz k v = true) : Zst k v = true := by
 obtain ⟨t, rfl⟩ := Zjo h
 exact beq_self_eq_true (some k)
nonrec def Zu5 (prog : Vf) (w : Vk) : KeyKind prog w Int where
 is := iIsz
 hash := hashInt
 inj := fun v a b ha hb => (Zkh prog w).inj v a b (Ze7 ha) (Ze7 hb)
 byValue := fun k v h => (Zkh prog w).byValue k v (Ze7 h)
 pyHash := fun hv h => (Zkh prog w).pyHash (Ze7 hv) h
 eqBool := fun {A E s a b u v Q} hu hv h => (Zkh prog w).eqBool (a := a) (b := b) (Ze7 hu) (Ze7 hv) h
 «strs» := fun k x t v h => by cases h
inductive D where
 | non | bl (b : Bool) | int (i : Int) | str (x : Str) | ty (n : String) | tup (xs : List D) | fl (xs : List D) | ref (n : Nat)
inductive DO where
 | lst (xs : List D) | dic (kvs : List (D × D)) (fz : Bool) | dci (kvs : List (Int × D)) | dcn (kvs : List (D × D)) | obj (cn : Str) (fs : List (Str × D)) | exc (cn : Str)
nonrec abbrev HD := List DO
nonrec abbrev SD := List (Option D)
def FzL (K : Xa) (H : Hp) (a : Ve) (xs : List V) : Prop :=
 (∃ o, H a = some (.frz o (.lst xs))) ∨
  ∃ (o : Obj) (its : Array Vb) (n : Nat), K.lookup a = some o ∧ o.cls = .type "list" ∧ o.dict = none ∧ o.data = .seq its n ∧ its.size ≤ sizeLine ∧ Zbp xs its.toList
theorem FzL.sq {K : Xa} {H : Hp} {a : Ve} {xs : List V} (h : FzL K H a xs) : SqL K H a xs := by
 rcases h with h | h
 ·exact .inl (.inr h)
 ·exact .inr h
nonrec def Zwd (n : String) : Bool := n == "bool" || n == "int" || n == "str" || n == "tuple" || n == "list"
mutual
noncomputable def Rep (K : Xa) (H : Hp) (ι : List Ve) : D -> V -> Prop
 | .non, v => v = .non
 | .bl b, v => v = .bl b
 | .int i, v => v = .int i
 | .str x, v => v = .str x
 | .ty n, v => (Zwd n = true ∧ v = .ty n) ∨ (Zwd n = false ∧ ∃ a, v = .ref a ∧ Wdj K mainGlobals (Ub n) = some (some (.ref a)))
 | .tup ds, v => ∃ a vs, v = .ref a ∧ SqT K H a vs ∧ Zlx K H ι ds vs
 | .fl ds, v => ∃ a vs, v = .ref a ∧ FzL K H a vs ∧ Zlx K H ι ds vs
 | .ref n, v => ∃ a, v = .ref a ∧ ι[n]? = some a
noncomputable def Zlx (K : Xa) (H : Hp) (ι : List Ve) : List D -> List V -> Prop
 | [], vs => vs = []
 | d :: ds, vs => ∃ v r, vs = v :: r ∧ Rep K H ι d v ∧ Zlx K H ι ds r
end
section
variable {α β : Type} {F G : α -> β -> Prop}
theorem Prd.len : ∀ {xs : List α} {us : List β}, Vh F xs us -> xs.length = us.length
 | _, _, .nil => rfl
 | _, _, .cons _ t => by simp [Prd.len t]
theorem Prd.get : ∀ {xs : List α} {us : List β} {i : Nat} {x : α}, Vh F xs us -> xs[i]? = some x -> ∃ u, us[i]? = some u ∧ F x u
 | _, _, _, _, .nil, e => by simp at e
 | _, _, 0, _, .cons r _, e => by simp at e; subst e; exact ⟨_, rfl, r⟩
 | _, _, i + 1, x, .cons _ t, e => by
  obtain ⟨u, h1, h2⟩ := Prd.get (i := i) (x := x) t (by simpa using e)
  exact ⟨u, by simpa using h1, h2⟩
theorem Prd.append : ∀ {xs ys : List α} {us ws : List β}, Vh F xs us -> Vh F ys ws -> Vh F (xs ++ ys) (us ++ ws)
 | _, _, _, _, .nil, s => s
 | _, _, _, _, .cons r t, s => .cons r (Prd.append t s)
theorem Prd.take : ∀ {xs : List α} {us : List β} (n : Nat), Vh F xs us -> Vh F (xs.take n) (us.take n)
 | _, _, 0, _ => .nil
 | _, _, _ + 1, .nil => .nil
 | _, _, n + 1, .cons r t => .cons r (Prd.take n t)
theorem Prd.drop : ∀ {xs : List α} {us : List β} (n : Nat), Vh F xs us -> Vh F (xs.drop n) (us.drop n)
 | _, _, 0, r => r
 | _, _, _ + 1, .nil => .nil
 | _, _, n + 1, .cons _ t => Prd.drop n t
theorem Prd.rep {xs : List α} {us : List β} (h : Vh F xs us) : ∀ k : Nat, Vh F (Xg k xs).flatten (Xg k us).flatten
 | 0 => .nil
 | k + 1 => by
  rw [Wax, Wbr, Wax, Wbr]
  exact Prd.append h (Prd.rep h k)
theorem Prd.imp : ∀ {xs : List α} {us : List β}, Vh F xs us -> (∀ a b, a ∈ xs -> F a b -> G a b) -> Vh G xs us
 | _, _, .nil, _ => .nil
 | _, _, .cons r t, f => .cons (f _ _ (by simp) r) (Prd.imp t fun a b h => f a b (by simp [h]))
theorem Prd.reverse : ∀ {xs : List α} {us : List β}, Vh F xs us -> Vh F xs.reverse us.reverse
 | _, _, .nil => .nil
 | _, _, .cons r t => by
  rw [Wcx, Wcx]
  exact Prd.append (Prd.reverse t) (.cons r .nil)
end
section
variable {K : Xa} {H H' : Hp} {ι ι' : List Ve}
theorem Zdm : ∀ {ds : List D} {vs : List V}, Zlx K H ι ds vs ↔ Vh (Rep K H ι) ds vs
 | [], vs => by
  constructor
  ·intro h; rw [Zlx] at h; subst h; exact .nil
  ·intro h; cases h; rw [Zlx]
 | d :: ds, vs => by
  constructor
  ·intro h; rw [Zlx] at h
   obtain ⟨v, r, rfl, h1, h2⟩ := h
   exact .cons h1 (Zdm.mp h2)
  ·intro h
   cases h with
   | cons h1 h2 => rw [Zlx]; exact ⟨_, _, rfl, h1, Zdm.mpr h2⟩
@[simp] theorem rep_non {v : V} : Rep K H ι .non v ↔ v = .non := by rw [Rep]
@[simp] theorem rep_bl {b : Bool} {v : V} : Rep K H ι (.bl b) v ↔ v = .bl b := by rw [Rep]
@[simp] theorem rep_int {i : Int} {v : V} : Rep K H ι (.int i) v ↔ v = .int i := by rw [Rep]
@[simp] theorem rep_str {x : Str} {v : V} : Rep K H ι (.str x) v ↔ v = .str x := by rw [Rep]
theorem Zwo {n : String} {v : V} (h : Zwd n = true) : Rep K H ι (.ty n) v ↔ v = .ty n := by rw [Rep]; simp [h]
theorem Zv2 {n : String} {v : V} (h : Zwd n = false) : Rep K H ι (.ty n) v ↔ ∃ a, v = .ref a ∧ Wdj K mainGlobals (Ub n) = some (some (.ref a)) := by rw [Rep]; simp [h]
theorem Zbj {ds : List D} {v : V} : Rep K H ι (.tup ds) v ↔ ∃ a vs, v = .ref a ∧ SqT K H a vs ∧ Vh (Rep K H ι) ds vs := by
 rw [Rep]
 constructor
 ·rintro ⟨a, vs, h1, h2, h3⟩; exact ⟨a, vs, h1, h2, Zdm.mp h3⟩
 ·rintro ⟨a, vs, h1, h2, h3⟩; exact ⟨a, vs, h1, h2, Zdm.mpr h3⟩
theorem Zf6 {ds : List D} {v : V} : Rep K H ι (.fl ds) v ↔ ∃ a vs, v = .ref a ∧ FzL K H a vs ∧ Vh (Rep K H ι) ds vs := by
 rw [Rep]
 constructor
 ·rintro ⟨a, vs, h1, h2, h3⟩; exact ⟨a, vs, h1, h2, Zdm.mp h3⟩
 ·rintro ⟨a, vs, h1, h2, h3⟩; exact ⟨a, vs, h1, h2, Zdm.mpr h3⟩
theorem Za4 {n : Nat} {v : V} : Rep K H ι (.ref n) v ↔ ∃ a, v = .ref a ∧ ι[n]? = some a := by rw [Rep]
structure Lw (K : Xa) (H : Hp) (ι : List Ve) (H' : Hp) (ι' : List Ve) : Prop where
 tup : ∀ a xs, SqT K H a xs -> SqT K H' a xs
 fz : ∀ a xs, FzL K H a xs -> FzL K H' a xs
 pre : ∃ t, ι' = ι ++ t
 fr : ∀ a o u, H a = some (.frz o u) -> H' a = some (.frz o u)
structure Le (K : Xa) (H : Hp) (ι : List Ve) (H' : Hp) (ι' : List Ve) : Prop extends Lw K H ι H' ι' where
 frame : ∀ a o, H a = some o -> a ∉ ι -> H' a = some o ∧ a ∉ ι'
theorem Le.refl : Le K H ι H ι := ⟨⟨fun _ _ h => h, fun _ _ h => h, ⟨[], by simp⟩, fun _ _ _ h => h⟩, fun _ _ h n => ⟨h, n⟩⟩
theorem Le.trans {H1 H2 : Hp} {ι1 ι2 : List Ve} (a : Le K H ι H1 ι1) (b : Le K H1 ι1 H2 ι2) : Le K H ι H2 ι2 := by
 refine ⟨⟨fun x xs h => b.tup x xs (a.tup x xs h), fun x xs h => b.fz x xs (a.fz x xs h), ?_, fun x o u h => b.fr x o u (a.fr x o u h)⟩, fun x o h n => ?_⟩
 ·obtain ⟨t, e⟩ := a.pre
  obtain ⟨u, e'⟩ := b.pre
  exact ⟨t ++ u, by rw [e', e, Wcy]⟩
 ·obtain ⟨h1, n1⟩ := a.frame x o h n
  exact b.frame x o h1 n1
theorem Lw.get (l : Lw K H ι H' ι') {n : Nat} {a : Ve} (h : ι[n]? = some a) : ι'[n]? = some a := by
 obtain ⟨t, e⟩ := l.pre
 rw [e, Xx (by exact (Xd.mp h).1), h]
mutual
theorem Rep.monoW (l : Lw K H ι H' ι') : ∀ {d : D} {v : V}, Rep K H ι d v -> Rep K H' ι' d v
 | .non, v, h => by rw [Rep] at h ⊢; exact h
 | .bl _, v, h => by rw [Rep] at h ⊢; exact h
 | .int _, v, h => by rw [Rep] at h ⊢; exact h
 | .str _, v, h => by rw [Rep] at h ⊢; exact h
 | .ty _, v, h => by rw [Rep] at h ⊢; exact h
 | .tup ds, v, h => by
  rw [Rep] at h ⊢
  obtain ⟨a, vs, h1, h2, h3⟩ := h
  exact ⟨a, vs, h1, l.tup a vs h2, Zlx.monoW l h3⟩
 | .fl ds, v, h => by
  rw [Rep] at h ⊢
  obtain ⟨a, vs, h1, h2, h3⟩ := h
  exact ⟨a, vs, h1, l.fz a vs h2, Zlx.monoW l h3⟩
 | .ref n, v, h => by
  rw [Rep] at h ⊢
  obtain ⟨a, h1, h2⟩ := h
  exact ⟨a, h1, l.get h2⟩
theorem Zlx.monoW (l : Lw K H ι H' ι') : ∀ {ds : List D} {vs : List V}, Zlx K H ι ds vs -> Zlx K H' ι' ds vs
 | [], vs, h => by rw [Zlx] at h ⊢; exact h
 | d :: ds, vs, h => by
  rw [Zlx] at h ⊢
  obtain ⟨v, r, h1, h2, h3⟩ := h
  exact ⟨v, r, h1, Rep.monoW l h2, Zlx.monoW l h3⟩
end
theorem Rep.mono (l : Le K H ι H' ι') {d : D} {v : V} (h : Rep K H ι d v) : Rep K H' ι' d v := Rep.monoW l.toLw h
theorem Prd.monoW (l : Lw K H ι H' ι') {ds : List D} {vs : List V} (h : Vh (Rep K H ι) ds vs) : Vh (Rep K H' ι') ds vs := Zdm.mp (Zlx.monoW l (Zdm.mpr h))
theorem Prd.mono (l : Le K H ι H' ι') {ds : List D} {vs : List V} (h : Vh (Rep K H ι) ds vs) : Vh (Rep K H' ι') ds vs := Prd.monoW l.toLw h
nonrec def nkOf : D -> Option Int
 | .int i => some i
 | .bl b => some (if b then 1 else 0)
 | _ => none
nonrec def Ycc : List D -> Option (List Int)
 | [] => some []
 | d :: r => (nkOf d).bind fun k => (Ycc r).map fun ks => k :: ks
nonrec def nk : D -> Option (List Int)
 | .tup ds => Ycc ds
 | _ => none
nonrec def Zz7 (ks : List Int) : Int := reduceHash (Tbo (ks.map hashInt))
def Ybk (a : Ve) (xs : List (List Int × Ve × Vb)) (h : Vu) : Prop :=
 ∃ o es ep, h.get? a = some o ∧ o.ExactDict ∧ o.data = .dict es ep ∧ es.toList = xs.map (fun x => (⟨Zz7 x.1, .ref x.2.1, x.2.2⟩ : Uab)) ∧ (xs.map (·.1)).Nodup
def KRep (K : Xa) (H : Hp) (ι : List Ve) (p : D × D) (x : List Int × Ve × Vb) : Prop := nk p.1 = some x.1 ∧ Rep K H ι p.1 (.ref x.2.1) ∧ ∃ v, Zca v x.2.2 ∧ Rep K H ι p.2 v
def Zen (a : Ve) (xs : List (Int × Vb)) (h : Vu) : Prop := ∀ (p : Vf) (w : Vk), h.DictOf (Zu5 p w) a xs
theorem Zen.keep {a : Ve} {xs : List (Int × Vb)} {h1 h2 : Vu} (d : Zen a xs h1) (k : ∀ o, h1.get? a = some o -> h2.get? a = some o) : Zen a xs h2 := fun p w => by
 obtain ⟨o, es, ep, e, r⟩ := d p w
 exact ⟨o, es, ep, k o e, r⟩
def Zur (K : Xa) (H : Hp) (ι : List Ve) (p : Int × D) (x : Int × Vb) : Prop := p.1 = x.1 ∧ ∃ v, Zca v x.2 ∧ Rep K H ι p.2 v
nonrec def nk2 : D -> Option (Int × List Int)
 | .tup [a, b] => (nkOf a).bind fun i => (nk b).map fun ks => (i, ks)
 | _ => none
nonrec def nHash (k : Int × List Int) : Int := reduceHash (Tbo [hashInt k.1, Zz7 k.2])
def DcnAt (a : Ve) (xs : List ((Int × List Int) × Ve × Vb)) (h : Vu) : Prop :=
 ∃ o es ep, h.get? a = some o ∧ o.ExactDict ∧ o.data = .dict es ep ∧ es.toList = xs.map (fun x => (⟨nHash x.1, .ref x.2.1, x.2.2⟩ : Uab)) ∧ (xs.map (·.1)).Nodup
def NRep (K : Xa) (H : Hp) (ι : List Ve) (p : D × D) (x : (Int × List Int) × Ve × Vb) : Prop := nk2 p.1 = some x.1 ∧ Rep K H ι p.1 (.ref x.2.1) ∧ ∃ v, Zca v x.2.2 ∧ Rep K H ι p.2 v
def FRep (K : Xa) (H : Hp) (ι : List Ve) (p : Str × D) (x : Str × V) : Prop := p.1 = x.1 ∧ Rep K H ι p.2 x.2
def ExcAt (a C : Ve) (h : Vu) : Prop := ∃ o, h.get? a = some o ∧ o.cls = .ref C
nonrec def Zrc (K : Xa) (H : Hp) (ι : List Ve) (a : Ve) : DO -> Prop
 | .lst ds => ∃ vs, H a = some (.lst vs) ∧ Vh (Rep K H ι) ds vs
 | .dic kvs fz => (a == sysModules) = false ∧ kvs.length ≤ sizeLine ∧ ∃ xs, (if fz = true then ∃ o, H a = some (.frz o (.ext (Ybk a xs))) else H a = some (.ext (Ybk a xs))) ∧ Vh (KRep K H ι) kvs xs
 | .dci kvs => (a == sysModules) = false ∧ kvs.length ≤ sizeLine ∧ ∃ xs, H a = some (.ext (Zen a xs)) ∧ Vh (Zur K H ι) kvs xs
 | .dcn kvs => (a == sysModules) = false ∧ kvs.length ≤ sizeLine ∧ ∃ xs, H a = some (.ext (DcnAt a xs)) ∧ Vh (NRep K H ι) kvs xs
 | .obj cn fs => ∃ C dx xs, Wdj K mainGlobals cn = some (some (.ref C)) ∧ H a = some (.ins C dx xs) ∧ Vh (FRep K H ι) fs xs
 | .exc cn => ∃ C, Wdj K mainGlobals cn = some (some (.ref C)) ∧ H a = some (.ext (ExcAt a C))
structure HRep (K : Xa) (H : Hp) (ι : List Ve) (Hd : HD) : Prop where
 len : ι.length = Hd.length
 nd : ι.Nodup
 obj : ∀ (n : Nat) (a : Ve) (o : DO), ι[n]? = some a -> Hd[n]? = some o -> Zrc K H ι a o
theorem Zrc.there {a : Ve} {o : DO} (h : Zrc K H ι a o) : H a ≠ none := by
 cases o with
 | lst ds => obtain ⟨vs, e, _⟩ := h; rw [e]; simp
 | dic kv fz =>
  obtain ⟨_, _, xs, e, _⟩ := h
  cases fz with
  | true => rw [if_pos rfl] at e; obtain ⟨ob, e⟩ := e; rw [e]; simp
  | false => rw [if_neg (by simp)] at e; rw [e]; simp
 | dci kv => obtain ⟨_, _, xs, e, _⟩ := h; rw [e]; simp
 | dcn kv => obtain ⟨_, _, xs, e, _⟩ := h; rw [e]; simp
 | obj cn fs => obtain ⟨C, dx, xs, _, e, _⟩ := h; rw [e]; simp
 | exc cn => obtain ⟨C, _, e⟩ := h; rw [e]; simp
theorem Zrc.step {a : Ve} {o : DO} (h : Zrc K H ι a o) (l : Lw K H ι H' ι') (e : H' a = H a) : Zrc K H' ι' a o := by
 cases o with
 | lst ds => obtain ⟨vs, q, r⟩ := h; exact ⟨vs, by rw [e, q], Prd.monoW l r⟩
 | dic kv fz => obtain ⟨h1, h2, xs, q, r⟩ := h; exact ⟨h1, h2, xs, by rw [e]; exact q, Prd.imp r fun p x _ z => ⟨z.1, Rep.monoW l z.2.1, let ⟨v, z1, z2⟩ := z.2.2; ⟨v, z1, Rep.monoW l z2⟩⟩⟩
 | dci kv => obtain ⟨h1, h2, xs, q, r⟩ := h; exact ⟨h1, h2, xs, by rw [e]; exact q, Prd.imp r fun p x _ z => ⟨z.1, let ⟨v, z1, z2⟩ := z.2; ⟨v, z1, Rep.monoW l z2⟩⟩⟩
 | dcn kv => obtain ⟨h1, h2, xs, q, r⟩ := h; exact ⟨h1, h2, xs, by rw [e]; exact q, Prd.imp r fun p x _ z => ⟨z.1, Rep.monoW l z.2.1, let ⟨v, z1, z2⟩ := z.2.2; ⟨v, z1, Rep.monoW l z2⟩⟩⟩
 | obj cn fs => obtain ⟨C, dx, xs, h1, q, r⟩ := h; exact ⟨C, dx, xs, h1, by rw [e]; exact q, Prd.imp r fun p x _ z => ⟨z.1, Rep.monoW l z.2⟩⟩
 | exc cn => obtain ⟨C, h1, q⟩ := h; exact ⟨C, h1, by rw [e]; exact q⟩
theorem HRep.has {Hd : HD} (h : HRep K H ι Hd) {a : Ve} (hm : a ∈ ι) : ∃ (n : Nat) (o : DO), ι[n]? = some a ∧ Hd[n]? = some o ∧ Zrc K H ι a o := by
 obtain ⟨n, hn⟩ := Wec.mp hm
 have hl : n < Hd.length := by rw [← h.len]; exact (Xd.mp hn).1
 exact ⟨n, Hd[n], hn, by simp [hl], h.obj n a Hd[n] hn (by simp [hl])⟩
theorem HRep.fresh {Hd : HD} (h : HRep K H ι Hd) {p : Ve} (hp : H p = none) : p ∉ ι := fun hm => by
 obtain ⟨_, _, _, _, o⟩ := h.has hm
 exact o.there hp
theorem HRep.keep {Hd : HD} (h : HRep K H ι Hd) (l : Lw K H ι H' ι) (e : ∀ a ∈ ι, H' a = H a) : HRep K H' ι Hd :=
 ⟨h.len, h.nd, fun n a o h1 h2 => (h.obj n a o h1 h2).step l (e a (Wbi h1))⟩
theorem Lw.fresh {p : Ve} (hp : H p = none) (o : HO) : Lw K H ι (upd H p o) ι where
 tup := fun a xs h => by
  rcases h with (h | ⟨ob, h⟩) | h
  ·exact .inl (.inl (by rw [Zai (Zak h hp)]; exact h))
  ·exact .inl (.inr ⟨ob, by rw [Zai (Zak h hp)]; exact h⟩)
  ·exact .inr h
 fz := fun a xs h => by
  rcases h with ⟨ob, h⟩ | h
  ·exact .inl ⟨ob, by rw [Zai (Zak h hp)]; exact h⟩
  ·exact .inr h
 pre := ⟨[], by simp⟩
 fr := fun a ob u h => by rw [Zai (Zak h hp)]; exact h
theorem Le.fresh {p : Ve} (hp : H p = none) (o : HO) : Le K H ι (upd H p o) ι := ⟨Lw.fresh hp o, fun a ob h n => ⟨by rw [Zai (Zak h hp)]; exact h, n⟩⟩
theorem Le.fresh1 {p : Ve} (hp : H p = none) (o : HO) : Le K H ι (upd H p o) (ι ++ [p]) where
 tup := (Le.fresh (ι := ι) hp o).tup
 fz := (Le.fresh (ι := ι) hp o).fz
 pre := ⟨[p], rfl⟩
 fr := (Le.fresh (K := K) (ι := ι) hp o).fr
 frame := fun a ob h n => ⟨by rw [Zai (Zak h hp)]; exact h, by
  have := Zak h hp
  simp [n, this]⟩
theorem HRep.tup {Hd : HD} (h : HRep K H ι Hd) {p : Ve} (hp : H p = none) (o : HO) : HRep K (upd H p o) ι Hd :=
 h.keep (Lw.fresh hp o) fun a ha => Zai fun z => by subst z; exact h.fresh hp ha
theorem HRep.new {Hd : HD} (h : HRep K H ι Hd) {p : Ve} (hp : H p = none) {u : HO} {o : DO} (ho : Zrc K (upd H p u) (ι ++ [p]) p o) : HRep K (upd H p u) (ι ++ [p]) (Hd ++ [o]) := by
 have hf := h.fresh hp
 refine ⟨by simp [h.len], by simp only [Wbj, h.nd, true_and]; exact ⟨by simp, fun a ha b hb e => hf (by simp at hb; rw [← hb, ← e]; exact ha)⟩, fun n a ob h1 h2 => ?_⟩
 by_cases hn : n < ι.length
 ·rw [Xx hn] at h1
  rw [Xx (by rw [← h.len]; exact hn)] at h2
  have ha : a ∈ ι := Wbi h1
  exact (h.obj n a ob h1 h2).step (Le.fresh1 hp u).toLw (Zai fun z => by subst z; exact hf ha)
 ·rw [Waq (by omega)] at h1
  rw [Waq (by rw [← h.len]; omega)] at h2
  rw [← h.len] at h2
  have : n - ι.length = 0 := by
   have := (Xd.mp h1).1
   simp at this; omega
  rw [this] at h1 h2
  simp at h1 h2
  subst h1; subst h2
  exact ho
nonrec def Ya0 : HO -> Prop
 | .lst _ => True
 | .ext _ => True
 | .ins _ _ _ => True
 | _ => False
theorem Le.upd {a : Ve} (ha : a ∈ ι) {o : HO} (e : H a = some o) (lo : Ya0 o) (u : HO) : Le K H ι (upd H a u) ι where
 tup := fun b xs h => by
  rcases h with (h | ⟨ob, h⟩) | h
  ·refine .inl (.inl ?_)
   rw [Zai (Zmc h e (by rintro rfl; exact lo))]; exact h
  ·refine .inl (.inr ⟨ob, ?_⟩)
   rw [Zai (Zmc h e (by rintro rfl; exact lo))]; exact h
  ·exact .inr h
 fz := fun b xs h => by
  rcases h with ⟨ob, h⟩ | h
  ·refine .inl ⟨ob, ?_⟩
   rw [Zai (Zmc h e (by rintro rfl; exact lo))]; exact h
  ·exact .inr h
 pre := ⟨[], by simp⟩
 fr := fun b ob w h => by rw [Zai (Zmc h e (by rintro rfl; exact lo))]; exact h
 frame := fun b ob h n => ⟨by rw [Zai (by rintro rfl; exact n ha)]; exact h, n⟩
theorem HRep.upd {Hd : HD} (h : HRep K H ι Hd) {n : Nat} {a : Ve} (hn : ι[n]? = some a) {o u : HO} (e : H a = some o) (lo : Ya0 o) {ob : DO} (ho : Zrc K (upd H a u) ι a ob) : HRep K (upd H a u) ι (Hd.set n ob) := by
 refine ⟨by simp [h.len], h.nd, fun m b oc h1 h2 => ?_⟩
 by_cases hm : n = m
 ·subst hm
  rw [hn] at h1; cases h1
  rw [Wca] at h2
  rw [if_pos rfl] at h2
  split at h2
  ·cases h2; exact ho
  ·cases h2
 ·rw [Wam hm] at h2
  have hb : b ≠ a := fun z => by
   subst z
   have l1 := (Xd.mp hn).1
   exact hm ((List.getElem?_inj l1 h.nd).mp (hn.trans h1.symm))
  exact (h.obj m b oc h1 h2).step (Le.upd (Wbi hn) e lo u).toLw (Zai hb)
theorem HRep.add {Hd : HD} (h : HRep K H ι Hd) {p : Ve} (hp : p ∉ ι) {o : DO} (ho : Zrc K H (ι ++ [p]) p o) : HRep K H (ι ++ [p]) (Hd ++ [o]) := by
 refine ⟨by simp [h.len], by simp only [Wbj, h.nd, true_and]; exact ⟨by simp, fun a ha b hb e => hp (by simp at hb; rw [← hb, ← e]; exact ha)⟩, fun n a ob h1 h2 => ?_⟩
 by_cases hn : n < ι.length
 ·rw [Xx hn] at h1
  rw [Xx (by rw [← h.len]; exact hn)] at h2
  exact (h.obj n a ob h1 h2).step ⟨fun _ _ z => z, fun _ _ z => z, ⟨[p], rfl⟩, fun _ _ _ z => z⟩ rfl
 ·rw [Waq (by omega)] at h1
  rw [Waq (by rw [← h.len]; omega)] at h2
  rw [← h.len] at h2
  have : n - ι.length = 0 := by
   have := (Xd.mp h1).1
   simp at this; omega
  rw [this] at h1 h2
  simp at h1 h2
  subst h1; subst h2
  exact ho
theorem Lw.side {p : Ve} {ys : List V} (hp : H p = some (.lst ys)) (u : HO) : Lw K H ι (L2.upd H p u) ι where
 tup := fun a xs h => by
  rcases h with (h | ⟨ob, h⟩) | h
  ·refine .inl (.inl ?_)
   rw [Zai (Zmc h hp (by intro z; cases z))]; exact h
  ·refine .inl (.inr ⟨ob, ?_⟩)
   rw [Zai (Zmc h hp (by intro z; cases z))]; exact h
  ·exact .inr h
 fz := fun a xs h => by
  rcases h with ⟨ob, h⟩ | h
  ·refine .inl ⟨ob, ?_⟩
   rw [Zai (Zmc h hp (by intro z; cases z))]; exact h
  ·exact .inr h
 pre := ⟨[], by simp⟩
 fr := fun a ob w h => by rw [Zai (Zmc h hp (by intro z; cases z))]; exact h
theorem Lw.trans {H1 H2 : Hp} {ι1 ι2 : List Ve} (a : Lw K H ι H1 ι1) (b : Lw K H1 ι1 H2 ι2) : Lw K H ι H2 ι2 := by
 refine ⟨fun x xs h => b.tup x xs (a.tup x xs h), fun x xs h => b.fz x xs (a.fz x xs h), ?_, fun x o u h => b.fr x o u (a.fr x o u h)⟩
 obtain ⟨t, e⟩ := a.pre
 obtain ⟨u, e'⟩ := b.pre
 exact ⟨t ++ u, by rw [e', e, Wcy]⟩
theorem Le.side {H1 : Hp} {ι1 : List Ve} {p : Ve} {ys : List V} (l : Le K H ι H1 ι1) (h0 : H p = none) (h1 : H1 p = some (.lst ys)) (u : HO) : Le K H ι (L2.upd H1 p u) ι1 :=
 ⟨l.toLw.trans (Lw.side h1 u), fun a o h n => by
  obtain ⟨q, m⟩ := l.frame a o h n
  exact ⟨by rw [Zai (Zak h h0)]; exact q, m⟩⟩
structure SRep (K : Xa) (H : Hp) (ι : List Ve) (σ : L2.St) (σd : SD) : Prop where
 len : σ.length = σd.length
 var : ∀ (i : Nat) (d : D), σd[i]? = some (some d) -> ∃ v, σ[i]? = some (some v) ∧ Rep K H ι d v
theorem SRep.mono {σ : L2.St} {σd : SD} (s : SRep K H ι σ σd) (l : Le K H ι H' ι') : SRep K H' ι' σ σd :=
 ⟨s.len, fun i d h => let ⟨v, h1, h2⟩ := s.var i d h; ⟨v, h1, h2.mono l⟩⟩
theorem SRep.set {σ : L2.St} {σd : SD} {d : D} {v : V} (s : SRep K H ι σ σd) (r : Rep K H ι d v) (i : Nat) : SRep K H ι (σ.set i (some v)) (σd.set i (some d)) := by
 refine ⟨by simp [s.len], fun j e h => ?_⟩
 by_cases hj : i = j
 ·subst hj
  rw [Wca] at h ⊢
  rw [if_pos rfl] at h ⊢
  split at h
  ·rename_i hl
   rw [if_pos (by rw [s.len]; exact hl)]
   cases h
   exact ⟨v, rfl, r⟩
  ·cases h
 ·rw [Wam hj] at h ⊢
  exact s.var j e h
end
nonrec def Zn6 : Vq -> Bool
 | .Starred _ _ => false
 | _ => true
theorem Zau {e : Vq} {es : List Vq} {env : Env} (h : Zn6 e = true) : starEach (e :: es) env = (false, eval e env) :: starEach es env := by
 cases e <;> first | rfl | cases h
theorem Zbv {pos : Pos} {env : Env} : ∀ {es : List Vq}, es.all Zn6 = true -> (backTo pos (starEach es env)).any (·.1) = false
 | [], _ => rfl
 | e :: es, h => by
  rw [Wdr, Xv] at h
  rw [Zau h.1]
  show (false || (backTo pos (starEach es env)).any (·.1)) = false
  rw [Zbv h.2]
  rfl
theorem Ztt {pos : Pos} {env : Env} {es : List Vq} (h : es.all Zn6 = true) (hl : es.length < 30) : ((backTo pos (starEach es env)).all (fun x => !x.1) && (backToKw pos (keywordEach [] env)).all (fun x => x.1.isSome)
   && decide (es.length + ([] : List Ubu).length + (if ([] : List Ubu).isEmpty then 0 else 1) < 30)) = true := by
 have h1 := Zbv (pos := pos) (env := env) h
 have h2 : (backTo pos (starEach es env)).all (fun x => !x.1) = true := by
  rw [Wao]
  intro x hx
  rw [Wbz] at h1
  have := h1 x hx
  simpa using this
 have h3 : decide (es.length + ([] : List Ubu).length + (if ([] : List Ubu).isEmpty then 0 else 1) < 30) = true := by
  rw [decide_eq_true_eq]
  simpa using hl
 rw [h2, h3]
 rfl
nonrec abbrev EF := SD -> HD -> Option (D × HD)
nonrec abbrev TF := SD -> HD -> Option (Bool × HD)
nonrec abbrev AF := SD -> HD -> Option (List D × HD)
inductive FD where
 | nx | bk | ct | rt (d : D)
nonrec abbrev SF := SD -> HD -> Option (FD × SD × HD)
nonrec abbrev GF := D -> SD -> HD -> Option (SD × HD)
nonrec abbrev FF := List D -> HD -> Option (D × HD)
nonrec abbrev F2 := D -> D -> HD -> Option (D × HD)
def QE (K : Xa) (H : Hp) (ι : List Ve) (d : D) (Hd' : HD) (Q : VK) : Prop := ∀ v H' ι', Le K H ι H' ι' -> HRep K H' ι' Hd' -> Rep K H' ι' d v -> Q v H'
nonrec def rdE (K : Xa) (f : EF) : TE := fun σ H Q => ∃ ι σd Hd d Hd', SRep K H ι σ σd ∧ HRep K H ι Hd ∧ f σd Hd = some (d, Hd') ∧ QE K H ι d Hd' Q
nonrec def rdT (K : Xa) (f : TF) : TT := fun σ H Q => ∃ ι σd Hd b Hd', SRep K H ι σ σd ∧ HRep K H ι Hd ∧ f σd Hd = some (b, Hd') ∧ ∀ H' ι', Le K H ι H' ι' -> HRep K H' ι' Hd' -> Q b H'
nonrec def rdA (K : Xa) (f : AF) : TA := fun σ H Q => ∃ ι σd Hd ds Hd', SRep K H ι σ σd ∧ HRep K H ι Hd ∧ f σd Hd = some (ds, Hd') ∧ ∀ vs H' ι', Le K H ι H' ι' -> HRep K H' ι' Hd' -> Vh (Rep K H' ι') ds vs -> Q vs H'
def QS (K : Xa) (H : Hp) (ι : List Ve) (fl : FD) (σd' : SD) (Hd' : HD) (E : Ends) : Prop := ∀ σ' H' ι', Le K H ι H' ι' -> HRep K H' ι' Hd' -> SRep K H' ι' σ' σd' →
 match fl with
 | .nx => E.nx σ' H'
 | .bk => E.bk σ' H'
 | .ct => E.ct σ' H'
 | .rt d => ∀ v, Rep K H' ι' d v -> E.rt v H'
nonrec def rdS (K : Xa) (f : SF) : TS := fun E σ H => ∃ ι σd Hd fl σd' Hd', SRep K H ι σ σd ∧ HRep K H ι Hd ∧ f σd Hd = some (fl, σd', Hd') ∧ QS K H ι fl σd' Hd' E
nonrec def rdG (K : Xa) (g : GF) : TG := fun v σ H Q => ∃ ι σd Hd d σd' Hd', SRep K H ι σ σd ∧ HRep K H ι Hd ∧ Rep K H ι d v ∧ g d σd Hd = some (σd', Hd') ∧
 ∀ σ' H' ι', Le K H ι H' ι' -> HRep K H' ι' Hd' -> SRep K H' ι' σ' σd' -> Q σ' H'
nonrec def rd2 (K : Xa) (g : F2) : R2 := fun x y H Q => ∃ ι dx dy Hd d Hd', HRep K H ι Hd ∧ Rep K H ι dx x ∧ Rep K H ι dy y ∧ g dx dy Hd = some (d, Hd') ∧ QE K H ι d Hd' Q
nonrec def rd1 (K : Xa) (g : D -> HD -> Option (D × HD)) : V -> Hp -> VK -> Prop := fun x H Q => ∃ ι dx Hd d Hd', HRep K H ι Hd ∧ Rep K H ι dx x ∧ g dx Hd = some (d, Hd') ∧ QE K H ι d Hd' Q
nonrec def rdC (K : Xa) (g : FF) : List V -> Hp -> VK -> Prop := fun vs H Q => ∃ ι ds Hd d Hd', HRep K H ι Hd ∧ Vh (Rep K H ι) ds vs ∧ g ds Hd = some (d, Hd') ∧ QE K H ι d Hd' Q
nonrec def rdM (K : Xa) (g : D -> List D -> HD -> Option (D × HD)) : V -> List V -> Hp -> VK -> Prop := fun v vs H Q => ∃ ι x ds Hd d Hd', HRep K H ι Hd ∧ Rep K H ι x v ∧ Vh (Rep K H ι) ds vs ∧ g x ds Hd = some (d, Hd') ∧ QE K H ι d Hd' Q
def PEf (X : Cx) (e : Vq) (f : EF) : Prop := PE X e (rdE X.K f)
def PTf (X : Cx) (e : Vq) (f : TF) : Prop := PT X e (rdT X.K f)
def PWf (X : Cx) (e : Vq) (f : TF) : Prop := PW X e (rdT X.K f)
def PAf (X : Cx) (es : List Vq) (f : AF) : Prop := PA X es (rdA X.K f)
def PSf (X : Cx) (st : Vw) (f : SF) : Prop := PS X st (rdS X.K f)
def Zmv (X : Cx) (st : List Vw) (f : SF) : Prop := PSs X st (rdS X.K f)
def PGf (X : Cx) (tg : Vq) (g : GF) : Prop := PG X tg (rdG X.K g)
def OpF (X : Cx) (f : Vb -> Vb -> Sem Vb) (g : F2) : Prop := OpR X f (rd2 X.K g)
def UnF (X : Cx) (f : Vb -> Sem Vb) (g : D -> HD -> Option (D × HD)) : Prop := UnR X f (rd1 X.K g)
def Zi0 (X : Cx) (f : Vb) (g : FF) : Prop := Zhj X f (rdC X.K g)
def IxF (X : Cx) (g : F2) : Prop := IxR X (rd2 X.K g)
def MtF (X : Cx) (id : String) (g : D -> List D -> HD -> Option (D × HD)) : Prop := MtR X id (rdM X.K g)
section
variable {X : Cx} {e a b c : Vq} {es : List Vq} {pos : Pos} {st : Vw} {sts : List Vw}
theorem PEi {t t' : TE} (h : PE X e t) (i : ∀ σ H Q, t' σ H Q -> t σ H Q) : PE X e t' := fun pins s σ H Q I q => h pins s σ H Q I (i σ H Q q)
theorem PTi {t t' : TT} (h : PT X e t) (i : ∀ σ H Q, t' σ H Q -> t σ H Q) : PT X e t' := fun pins s σ H Q I q => h pins s σ H Q I (i σ H Q q)
theorem PWi {t t' : TT} (h : PW X e t) (i : ∀ σ H Q, t' σ H Q -> t σ H Q) : PW X e t' := fun wh pins s σ H Q I q => h wh pins s σ H Q I (i σ H Q q)
theorem PAi {t t' : TA} (h : PA X es t) (i : ∀ σ H Q, t' σ H Q -> t σ H Q) : PA X es t' := fun ps pins s σ H Q I q => h ps pins s σ H Q I (i σ H Q q)
theorem PSi {t t' : TS} (h : PS X st t) (i : ∀ E σ H, t' E σ H -> t E σ H) : PS X st t' := fun pins s σ H E I q => h pins s σ H E I (i E σ H q)
theorem Zzj {t t' : TS} (h : PSs X sts t) (i : ∀ E σ H, t' E σ H -> t E σ H) : PSs X sts t' := fun pins s σ H E I q => h pins s σ H E I (i E σ H q)
theorem PGi {t t' : TG} (h : PG X e t) (i : ∀ v σ H Q, t' v σ H Q -> t v σ H Q) : PG X e t' := fun pins s σ H v u Q I r q => h pins s σ H v u Q I r (i v σ H Q q)
theorem OpRi {f : Vb -> Vb -> Sem Vb} {t t' : R2} (h : OpR X f t) (i : ∀ x y H Q, t' x y H Q -> t x y H Q) : OpR X f t' := fun pins s σ H x y v u Q I r1 r2 q => h pins s σ H x y v u Q I r1 r2 (i x y H Q q)
nonrec def Zac (i : Nat) : EF := fun σ H => (σ[i]?).join.map fun d => (d, H)
nonrec def eC (d : D) : EF := fun _ H => some (d, H)
theorem Zab {i : Nat} {x : Str} (h : PE X (.Name x pos) (tVar i)) : PEf X (.Name x pos) (Zac i) := by
 refine PEi h fun σ H Q zz => ?_
 obtain ⟨ι, σd, Hd, d, Hd', s, hr, e, q⟩ := zz
 unfold Zac at e
 cases hx : σd[i]? with
 | none => rw [hx] at e; cases e
 | some o =>
  cases o with
  | none => rw [hx] at e; cases e
  | some d0 =>
   rw [hx] at e
   have e' : (d0, Hd) = (d, Hd') := Waa.inj e
   obtain ⟨rfl, rfl⟩ := Wba.inj e'
   obtain ⟨v, h1, h2⟩ := s.var i d0 hx
   exact ⟨v, h1, q v H ι Le.refl hr h2⟩
theorem Zph {v : V} {d : D} (h : PE X e (tC v)) (r : ∀ H ι, Rep X.K H ι d v) : PEf X e (eC d) := by
 refine PEi h fun σ H Q zz => ?_
 obtain ⟨ι, σd, Hd, d', Hd', s, hr, e, q⟩ := zz
 cases e
 exact q v H ι Le.refl hr (r H ι)
theorem Zag {i j} : PEf X (.Constant (.int i) j pos) (eC (.int i)) := Zph Zzz fun _ _ => by simp
theorem Zlv {b j} : PEf X (.Constant (.bool b) j pos) (eC (.bl b)) := Zph pe_bl fun _ _ => by simp
theorem Zcy {j} : PEf X (.Constant .none j pos) (eC .non) := Zph Yb5 fun _ _ => by simp
theorem Znn {x j} : PEf X (.Constant (.str x) j pos) (eC (.str x)) := Zph Zrz fun _ _ => by simp
theorem Zg8 {x : Str} {n : String} (hg : Gl X x) (hm : X.mg x = none) (hv : bootBuiltins x = some (.type n)) (hn : x ≠ "__name__" := by decide) (hd : (x == ("__debug__" : Str)) = false := by decide) (ht : Zwd n = true := by decide) : PEf X (.Name x pos) (eC (.ty n)) :=
 Zph (Ztc (v := .ty n) hg hm hv rfl hn hd) fun _ _ => (Zwo ht).mpr rfl
nonrec def eOp (g : F2) (fa fb : EF) : EF := fun σ H => (fa σ H).bind fun p => (fb σ p.2).bind fun q => g p.1 q.1 q.2
theorem Zu3 {fa fb : EF} {g : F2} {σ : L2.St} {H : Hp} {Q : VK} {K : Xa} (h : rdE K (eOp g fa fb) σ H Q) : tOp (rd2 K g) (rdE K fa) (rdE K fb) σ H Q := by
 obtain ⟨ι, σd, Hd, d, Hd', s, hr, e, q⟩ := h
 obtain ⟨⟨x, H1⟩, e1, e⟩ := Zo e
 obtain ⟨⟨y, H2⟩, e2, e⟩ := Zo e
 exact ⟨ι, σd, Hd, x, H1, s, hr, e1, fun v1 H1' ι1 l1 h1 r1 => ⟨ι1, σd, H1, y, H2, s.mono l1, h1, e2, fun v2 H2' ι2 l2 h2 r2 =>
  ⟨ι2, x, y, H2, d, Hd', h2, r1.mono l2, r2, e, fun v H' ι' l h r => q v H' ι' ((l1.trans l2).trans l) h r⟩⟩⟩
theorem Zal {op : Ubw} {g : F2} {fa fb : EF} (ho : OpF X (binaryOp op) g) (ha : PEf X a fa) (hb : PEf X b fb) : PEf X (.BinOp a op b pos) (eOp g fa fb) :=
 PEi (Yci ho ha hb) fun _ _ _ h => Zu3 h
theorem Zei {op : CmpOp} {g : F2} {fa fb : EF} (ho : OpF X (compareOp op) g) (ha : PEf X a fa) (hb : PEf X b fb) (hm : behindInMarks op b = false) : PEf X (.Compare a [op] [b] pos) (eOp g fa fb) :=
 PEi (Zy8 ho ha hb hm) fun _ _ _ h => Zu3 h
theorem Zbl {g : F2} {fa fb : EF} (ho : IxF X g) (ha : PEf X a fa) (hb : PEf X b fb) (hs : Zsa b) : PEf X (.Subscript a b pos) (eOp g fa fb) :=
 PEi (pe_ix ho ha hb hs) fun _ _ _ h => Zu3 h
nonrec def eUn (g : D -> HD -> Option (D × HD)) (fa : EF) : EF := fun σ H => (fa σ H).bind fun p => g p.1 p.2
theorem Ziv {op : UnaryOp} {g : D -> HD -> Option (D × HD)} {fa : EF} (ho : UnF X (unaryOp op) g) (ha : PEf X a fa) : PEf X (.UnaryOp op a pos) (eUn g fa) := by
 refine PEi (pe_un ho ha) fun σ H Q zz => ?_
 obtain ⟨ι, σd, Hd, d, Hd', s, hr, e, q⟩ := zz
 obtain ⟨⟨x, H1⟩, e1, e⟩ := Zo e
 exact ⟨ι, σd, Hd, x, H1, s, hr, e1, fun v1 H1' ι1 l1 h1 r1 => ⟨ι1, x, H1, d, Hd', h1, r1, e, fun v H' ι' l h r => q v H' ι' (l1.trans l) h r⟩⟩
nonrec def blD : D -> Option Bool
 | .bl b => some b
 | _ => none
nonrec def tOf (f : EF) : TF := fun σ H => (f σ H).bind fun p => (blD p.1).map fun b => (b, p.2)
theorem Zie {K : Xa} {H : Hp} {ι : List Ve} {d : D} {b : Bool} {v : V} (e : blD d = some b) (r : Rep K H ι d v) : v = .bl b := by
 cases d <;> simp [blD] at e
 subst e
 simpa using r
theorem Zan {op : CmpOp} {g : F2} {fa fb : EF} (ho : OpF X (compareOp op) g) (ha : PEf X a fa) (hb : PEf X b fb) (hm : behindInMarks op b = false) : PTf X (.Compare a [op] [b] pos) (tOf (eOp g fa fb)) := by
 refine PTi (Zw2 ho ha hb hm) fun σ H Q zz => ?_
 obtain ⟨ι, σd, Hd, bb, Hd', s, hr, e, q⟩ := zz
 obtain ⟨⟨x, H1⟩, e1, e⟩ := Zo e
 obtain ⟨b', eb, e⟩ := Zm e
 cases e
 exact Zu3 ⟨ι, σd, Hd, x, H1, s, hr, e1, fun v H' ι' l h r => ⟨bb, Zie eb r, q H' ι' l h⟩⟩
nonrec def Zth : D -> HD -> Option Bool
 | .non, _ => some false
 | .bl b, _ => some b
 | .int i, _ => some (i != 0)
 | .tup xs, _ => some (!xs.isEmpty)
 | .fl xs, _ => some (!xs.isEmpty)
 | .str x, _ => if x.length ≤ sizeLine then some ((x.length : Int) != 0) else none
 | .ref n, H => match H[n]? with
  | some (.lst xs) => some (!xs.isEmpty)
  | _ => none
 | _, _ => none
theorem Zic {α β : Type} {F : α -> β -> Prop} {xs : List α} {us : List β} (r : Vh F xs us) : (!us.isEmpty) = !xs.isEmpty := by cases r <;> rfl
theorem Zzh {K : Xa} {H : Hp} {ι : List Ve} {Hd : HD} {d : D} {k : Bool} {v : V} (hr : HRep K H ι Hd) (r : Rep K H ι d v) (e : Zth d Hd = some k) : TruV K v H k := by
 cases d with
 | non => simp at r; subst r; simp [Zth] at e; subst e; exact rfl
 | bl b => simp at r; subst r; simp [Zth] at e; subst e; exact rfl
 | int i => simp at r; subst r; simp [Zth] at e; subst e; exact rfl
 | ty n => simp [Zth] at e
 | str x =>
  simp at r; subst r
  simp only [Zth] at e
  split at e
  ·rename_i hl
   cases e
   exact ⟨hl, rfl⟩
  ·cases e
 | tup xs =>
  obtain ⟨ad, vs, rfl, h, p⟩ := Zbj.mp r
  cases (show some (!xs.isEmpty) = some k from e)
  exact .inr (.inl ⟨vs, h, by rw [Zic p]⟩)
 | fl xs =>
  obtain ⟨ad, vs, rfl, h, p⟩ := Zf6.mp r
  cases (show some (!xs.isEmpty) = some k from e)
  exact .inl ⟨vs, h.sq, by rw [Zic p]⟩
 | ref n =>
  obtain ⟨ad, rfl, h⟩ := Za4.mp r
  simp only [Zth] at e
  split at e
  ·rename_i xs ho
   cases e
   obtain ⟨vs, h1, p⟩ := hr.obj n ad _ h ho
   exact .inl ⟨vs, SqL.of h1, by rw [Zic p]⟩
  ·cases e
nonrec def Ze4 (f : EF) : TF := fun σ H => (f σ H).bind fun p => (Zth p.1 p.2).map fun b => (b, p.2)
theorem Zk9 {fa : EF} (ha : PEf X a fa) (he : ∀ whole, isTrue a X.env whole = (do let v ← whole; standAt a.pos; holding [v] (truthy v))) : PTf X a (Ze4 fa) := by
 refine PTi (Zt2 ha he) fun σ H Q zz => ?_
 obtain ⟨ι, σd, Hd, bb, Hd', s, hr, e, q⟩ := zz
 obtain ⟨⟨x, H1⟩, e1, e⟩ := Zo e
 obtain ⟨b', eb, e⟩ := Zm e
 cases e
 exact ⟨ι, σd, Hd, x, H1, s, hr, e1, fun v H' ι' l h r => ⟨bb, Zzh h r eb, q H' ι' l h⟩⟩
nonrec def tNo (t : TF) : TF := fun σ H => (t σ H).map fun p => (!p.1, p.2)
nonrec def tAn (t u : TF) : TF := fun σ H => (t σ H).bind fun p => if p.1 = true then u σ p.2 else some (false, p.2)
nonrec def Zgl (t u : TF) : TF := fun σ H => (t σ H).bind fun p => if p.1 = true then some (true, p.2) else u σ p.2
theorem Zyo {t : TF} (h : PTf X a t) : PTf X (.UnaryOp .Not a pos) (tNo t) := by
 refine PTi (Ycg h) fun σ H Q zz => ?_
 obtain ⟨ι, σd, Hd, bb, Hd', s, hr, e, q⟩ := zz
 obtain ⟨⟨x, H1⟩, e1, e⟩ := Zm e
 cases e
 exact ⟨ι, σd, Hd, x, H1, s, hr, e1, fun H' ι' l h => q H' ι' l h⟩
theorem Zva {t : TF} (h : PTf X a t) : PWf X (.BoolOp .And [a] pos) t := Zy3 h
theorem Zyw {t : TF} (h : PTf X a t) : PWf X (.BoolOp .Or [a] pos) t := Yag h
theorem Zyt {t u : TF} (h : PTf X a t) (h2 : PWf X (.BoolOp .And (b :: es) pos) u) : PWf X (.BoolOp .And (a :: b :: es) pos) (tAn t u) := by
 refine PWi (Yac h h2) fun σ H Q zz => ?_
 obtain ⟨ι, σd, Hd, bb, Hd', s, hr, e, q⟩ := zz
 obtain ⟨⟨x, H1⟩, e1, e⟩ := Zo e
 refine ⟨ι, σd, Hd, x, H1, s, hr, e1, fun H' ι' l h => ?_⟩
 cases x with
 | true =>
  rw [if_pos rfl]
  exact ⟨ι', σd, H1, bb, Hd', s.mono l, h, by simpa using e, fun H2 ι2 l2 h2 => q H2 ι2 (l.trans l2) h2⟩
 | false =>
  rw [if_neg (by simp)]
  simp at e
  obtain ⟨rfl, rfl⟩ := e
  exact q H' ι' l h
theorem Ycl {t u : TF} (h : PTf X a t) (h2 : PWf X (.BoolOp .Or (b :: es) pos) u) : PWf X (.BoolOp .Or (a :: b :: es) pos) (Zgl t u) := by
 refine PWi (pw_or h h2) fun σ H Q zz => ?_
 obtain ⟨ι, σd, Hd, bb, Hd', s, hr, e, q⟩ := zz
 obtain ⟨⟨x, H1⟩, e1, e⟩ := Zo e
 refine ⟨ι, σd, Hd, x, H1, s, hr, e1, fun H' ι' l h => ?_⟩
 cases x with
 | true =>
  rw [if_pos rfl]
  simp at e
  obtain ⟨rfl, rfl⟩ := e
  exact q H' ι' l h
 | false =>
  rw [if_neg (by simp)]
  exact ⟨ι', σd, H1, bb, Hd', s.mono l, h, by simpa using e, fun H2 ι2 l2 h2 => q H2 ι2 (l.trans l2) h2⟩
theorem PWf.pt {t : TF} (h : PWf X a t) : PTf X a t := h _
nonrec def eNo (f : EF) : EF := fun σ H => (f σ H).bind fun p => (blD p.1).map fun b => (.bl (!b), p.2)
nonrec def eAn (f g : EF) : EF := fun σ H => (f σ H).bind fun p => (blD p.1).bind fun b => if b = true then g σ p.2 else some (.bl false, p.2)
theorem Zry {f : EF} (h : PEf X a f) : PEf X (.UnaryOp .Not a pos) (eNo f) := by
 refine PEi (Ycm h) fun σ H Q zz => ?_
 obtain ⟨ι, σd, Hd, d, Hd', s, hr, e, q⟩ := zz
 obtain ⟨⟨x, H1⟩, e1, e⟩ := Zo e
 obtain ⟨b', eb, e⟩ := Zm e
 cases e
 exact ⟨ι, σd, Hd, x, H1, s, hr, e1, fun v H' ι' l h r => ⟨b', Zie eb r, q _ H' ι' l h (by simp)⟩⟩
theorem Zxo {op} {f : EF} (h : PEf X a f) : PEf X (.BoolOp op [a] pos) f := Ybj h
theorem Zy1 {f g : EF} (h : PEf X a f) (h2 : PEf X (.BoolOp .And (b :: es) pos) g) : PEf X (.BoolOp .And (a :: b :: es) pos) (eAn f g) := by
 refine PEi (Ybe h h2) fun σ H Q zz => ?_
 obtain ⟨ι, σd, Hd, d, Hd', s, hr, e, q⟩ := zz
 obtain ⟨⟨x, H1⟩, e1, e⟩ := Zo e
 obtain ⟨b', eb, e⟩ := Zo e
 refine ⟨ι, σd, Hd, x, H1, s, hr, e1, fun v H' ι' l h r => ⟨b', Zie eb r, ?_⟩⟩
 cases b' with
 | true =>
  rw [if_pos rfl]
  exact ⟨ι', σd, H1, d, Hd', s.mono l, h, by simpa using e, fun v2 H2 ι2 l2 h2 r2 => q v2 H2 ι2 (l.trans l2) h2 r2⟩
 | false =>
  rw [if_neg (by simp)]
  simp at e
  obtain ⟨rfl, rfl⟩ := e
  exact q _ H' ι' l h (by simp)
nonrec def Zae : AF := fun _ H => some ([], H)
nonrec def Zaa (f : EF) (g : AF) : AF := fun σ H => (f σ H).bind fun p => (g σ p.2).map fun q => (p.1 :: q.1, q.2)
theorem Zi3 : PAf X [] Zae := by
 refine PAi Zjj fun σ H Q zz => ?_
 obtain ⟨ι, σd, Hd, d, Hd', s, hr, e, q⟩ := zz
 cases e
 exact q [] H ι Le.refl hr .nil
theorem Zot {f : EF} {g : AF} (ha : PEf X e f) (hr : PAf X es g) (hs : starEach (e :: es) X.env = (false, eval e X.env) :: starEach es X.env := by exact Zau rfl) : PAf X (e :: es) (Zaa f g) := by
 refine PAi (Zcz ha hr hs) fun σ H Q zz => ?_
 obtain ⟨ι, σd, Hd, d, Hd', s, hr, e, q⟩ := zz
 obtain ⟨⟨x, H1⟩, e1, e⟩ := Zo e
 obtain ⟨⟨y, H2⟩, e2, e⟩ := Zm e
 cases e
 exact ⟨ι, σd, Hd, x, H1, s, hr, e1, fun v1 H1' ι1 l1 h1 r1 => ⟨ι1, σd, H1, y, H2, s.mono l1, h1, e2, fun vs H2' ι2 l2 h2 r2 => q _ H2' ι2 (l1.trans l2) h2 (.cons (r1.mono l2) r2)⟩⟩
nonrec def mkT (xs : List D) (H : HD) : Option (D × HD) := if xs.length ≤ sizeLine then some (.tup xs, H) else none
nonrec def mkL (xs : List D) (H : HD) : Option (D × HD) := if xs.length ≤ sizeLine then some (.ref H.length, H ++ [.lst xs]) else none
theorem Zhs {xs : List D} {H : HD} {r : D × HD} (h : mkT xs H = some r) : xs.length ≤ sizeLine ∧ r = (.tup xs, H) := by
 unfold mkT at h
 split at h
 ·rename_i hl; cases h; exact ⟨hl, rfl⟩
 ·cases h
theorem Zn1 {xs : List D} {H : HD} {r : D × HD} (h : mkL xs H = some r) : xs.length ≤ sizeLine ∧ r = (.ref H.length, H ++ [.lst xs]) := by
 unfold mkL at h
 split at h
 ·rename_i hl; cases h; exact ⟨hl, rfl⟩
 ·cases h
theorem Zgw {K : Xa} {H : Hp} {ι : List Ve} {Hd Hd' : HD} {xs : List D} {vs : List V} {d : D} {Q : VK} (hr : HRep K H ι Hd) (r : Vh (Rep K H ι) xs vs) (e : mkT xs Hd = some (d, Hd')) (q : QE K H ι d Hd' Q) :
  vs.length ≤ sizeLine ∧ ∀ p, H p = none -> Q (.ref p) (upd H p (.tup vs)) := by
 obtain ⟨hl, e⟩ := Zhs e
 cases e
 refine ⟨by rw [← Prd.len r]; exact hl, fun p hp => ?_⟩
 exact q _ _ ι (Le.fresh hp _) (hr.tup hp _) (Zbj.mpr ⟨p, vs, rfl, SqT.of upd_same, Prd.mono (Le.fresh hp _) r⟩)
theorem Zeq {K : Xa} {H : Hp} {ι : List Ve} {Hd Hd' : HD} {xs : List D} {vs : List V} {d : D} {Q : VK} (hr : HRep K H ι Hd) (r : Vh (Rep K H ι) xs vs) (e : mkL xs Hd = some (d, Hd')) (q : QE K H ι d Hd' Q) :
  vs.length ≤ sizeLine ∧ ∀ p, H p = none -> Q (.ref p) (upd H p (.lst vs)) := by
 obtain ⟨hl, e⟩ := Zn1 e
 cases e
 refine ⟨by rw [← Prd.len r]; exact hl, fun p hp => ?_⟩
 refine q _ _ (ι ++ [p]) (Le.fresh1 hp _) (hr.new hp ⟨vs, upd_same, Prd.mono (Le.fresh1 hp _) r⟩) (Za4.mpr ⟨p, rfl, ?_⟩)
 rw [← hr.len]; simp
nonrec def Zem (f : AF) : EF := fun σ H => (f σ H).bind fun p => mkT p.1 p.2
nonrec def Zcb (f : AF) : EF := fun σ H => (f σ H).bind fun p => mkL p.1 p.2
theorem Zsz {f : AF} {x1} (h : PAf X es f) : PEf X (.Tuple es x1 pos) (Zem f) := by
 refine PEi (Zwi h) fun σ H Q zz => ?_
 obtain ⟨ι, σd, Hd, d, Hd', s, hr, e, q⟩ := zz
 obtain ⟨⟨x, H1⟩, e1, e⟩ := Zo e
 exact ⟨ι, σd, Hd, x, H1, s, hr, e1, fun vs H' ι' l h r => Zgw h r e fun v2 H2 ι2 l2 h2 r2 => q v2 H2 ι2 (l.trans l2) h2 r2⟩
theorem Zrr {f : AF} (h : PAf X es f) : PEf X (.List es pos) (Zcb f) := by
 refine PEi (Zwu h) fun σ H Q zz => ?_
 obtain ⟨ι, σd, Hd, d, Hd', s, hr, e, q⟩ := zz
 obtain ⟨⟨x, H1⟩, e1, e⟩ := Zo e
 exact ⟨ι, σd, Hd, x, H1, s, hr, e1, fun vs H' ι' l h r => Zeq h r e fun v2 H2 ι2 l2 h2 r2 => q v2 H2 ι2 (l.trans l2) h2 r2⟩
nonrec def eCB (g : FF) (f : AF) : EF := fun σ H => (f σ H).bind fun p => g p.1 p.2
theorem Ya7 {f : AF} {g : FF} {σ : L2.St} {H : Hp} {Q : VK} {K : Xa} (h : rdE K (eCB g f) σ H Q) : tCB (rdC K g) (rdA K f) σ H Q := by
 obtain ⟨ι, σd, Hd, d, Hd', s, hr, e, q⟩ := h
 obtain ⟨⟨x, H1⟩, e1, e⟩ := Zo e
 exact ⟨ι, σd, Hd, x, H1, s, hr, e1, fun vs H' ι' l h r => ⟨ι', x, H1, d, Hd', h, r, e, fun v2 H2 ι2 l2 h2 r2 => q v2 H2 ι2 (l.trans l2) h2 r2⟩⟩
theorem Zdu {x : Str} {id : String} {g : FF} {f : AF} {p : Pos} (hc : Zi0 X (.builtin id) g) (hg : Gl X x) (hm : X.mg x = none) (hv : bootBuiltins x = some (.builtin id)) (ha : PAf X (e :: es) f) (hn : x ≠ "__name__" := by decide) (hdb : (x == ("__debug__" : Str)) = false := by decide)
  (he : starEach (e :: es) X.env = (false, eval e X.env) :: starEach es X.env := by exact Zau rfl) (hpl : (backTo pos (starEach es X.env)).any (·.1) = false := by exact Zbv rfl) : PEf X (.Call (.Name x p) (e :: es) [] pos) (eCB g f) :=
 PEi (Zht hc hg hm hv ha hn hdb he hpl) fun _ _ _ h => Ya7 h
theorem Ze6 {x : Str} {T : String} {g : FF} {f : AF} {p : Pos} (hc : Zi0 X (.type T) g) (hg : Gl X x) (hm : X.mg x = none) (hv : bootBuiltins x = some (.type T)) (ha : PAf X (e :: es) f) (hn : x ≠ "__name__" := by decide) (hdb : (x == ("__debug__" : Str)) = false := by decide)
  (he : starEach (e :: es) X.env = (false, eval e X.env) :: starEach es X.env := by exact Zau rfl) (hpl : (backTo pos (starEach es X.env)).any (·.1) = false := by exact Zbv rfl) : PEf X (.Call (.Name x p) (e :: es) [] pos) (eCB g f) :=
 PEi (Zqw hc hg hm hv ha hn hdb he hpl) fun _ _ _ h => Ya7 h
nonrec def spF (K : Xa) (n : Nat) (F : FF) : Sp := fun vs H Q _ => ∃ ι ds Hd d Hd', ds.length = n ∧ HRep K H ι Hd ∧ Vh (Rep K H ι) ds vs ∧ F ds Hd = some (d, Hd') ∧ QE K H ι d Hd' Q
nonrec def Zam (n : Nat) (F : FF) (f : AF) : EF := fun σ H => (f σ H).bind fun p => if p.1.length = n then F p.1 p.2 else none
theorem Ztq {k n : Nat} {f : Ve} {fd : Vy} {ps : List Str} {x : Str} {p : Pos} {F : FF} {fa : AF} (G : FnOk X.prog X.w X.K X.mg X.base CX0 k f fd ps (spF X.K n F)) (hr : Room k X.A) (hg : Gl X x) (hm : X.mg x = some (.ref f)) (hk : Waz X.K (.ref f) = true)
  (hb : Zfl X.K fd ps []) (ha : PAf X (e :: es) fa) (hdb : (x == ("__debug__" : Str)) = false := by decide) (he : starEach (e :: es) X.env = (false, eval e X.env) :: starEach es X.env := by exact Zau rfl) (hpl : (backTo pos (starEach es X.env)).any (·.1) = false := by exact Zbv rfl) :
  PEf X (.Call (.Name x p) (e :: es) [] pos) (Zam n F fa) := by
 refine PEi (Zx0 (E := E0) G hr hg hm hk hb .nil Zzx ha hdb he hpl) fun σ H Q zz => ?_
 obtain ⟨ι, σd, Hd, d, Hd', s, hr, e, q⟩ := zz
 obtain ⟨⟨x, H1⟩, e1, e⟩ := Zo e
 refine ⟨ι, σd, Hd, x, H1, s, hr, e1, fun vs H' ι' l h r => ?_⟩
 dsimp only at e
 split at e
 ·rename_i hl
  exact ⟨ι', x, H1, d, Hd', hl, h, by simpa using r, e, fun v2 H2 ι2 l2 h2 r2 => q v2 H2 ι2 (l.trans l2) h2 r2⟩
 ·cases e
nonrec def Znp : D -> HD -> Bool
 | .ref n, H => match H[n]? with
  | some (.lst _) => true
  | _ => false
 | _, _ => false
theorem Ztl {K : Xa} {H : Hp} {ι : List Ve} {Hd : HD} {d : D} {v : V} (hr : HRep K H ι Hd) (r : Rep K H ι d v) (e : Znp d Hd = true) : tyV K "list" v H := by
 cases d with
 | ref n =>
  obtain ⟨ad, rfl, h⟩ := Za4.mp r
  simp only [Znp] at e
  split at e
  ·rename_i xs ho
   obtain ⟨vs, h1, p⟩ := hr.obj n ad _ h ho
   exact .inl ⟨rfl, vs, SqL.of h1⟩
  ·cases e
 | _ => simp [Znp] at e
nonrec def eLM (g : D -> List D -> HD -> Option (D × HD)) (fo : EF) (f : AF) : EF := fun σ H => (fo σ H).bind fun o => if Znp o.1 o.2 = true then (f σ o.2).bind fun p => g o.1 p.1 p.2 else none
theorem Zj4 {o : Vq} {name : Str} {apos cpos : Pos} {id : String} {g : D → List D → HD → Option (D × HD)} {fo : EF} {f : AF} (slot : Slot "list" name id) (hty : typeOf (.builtin id) = pure (.type "method_descriptor")) (hm : MtF X id g) (ho : PEf X o fo) (ha : PAf X (e :: es) f)
  (hbase : attributeBase o name X.env (eval o X.env) = eval o X.env := by rfl)
  (hfew : ((backTo cpos (starEach (e :: es) X.env)).all (fun x => !x.1) && (backToKw cpos (keywordEach [] X.env)).all (fun x => x.1.isSome)
   && decide ((e :: es).length + ([] : List Ubu).length + (if ([] : List Ubu).isEmpty then 0 else 1) < 30)) = true := by exact Ztt rfl (by decide))
  (hline : (apos.endLine == cpos.line) = true := by rfl) (hs : starEach (e :: es) X.env = (false, eval e X.env) :: starEach es X.env := by exact Zau rfl) (hplain : (backTo cpos (starEach es X.env)).any (·.1) = false := by exact Zbv rfl) :
  PEf X (.Call (.Attribute o name apos) (e :: es) [] cpos) (eLM g fo f) := by
 refine PEi (pe_bm PySem.F.plainAttrs_list slot hty hm ho ha hbase hfew hline hs hplain) fun σ H Q zz => ?_
 obtain ⟨ι, σd, Hd, d, Hd', s, hr, e, q⟩ := zz
 obtain ⟨⟨x, H1⟩, e1, e⟩ := Zo e
 dsimp only at e
 split at e
 ·rename_i hl
  obtain ⟨⟨y, H2⟩, e2, e⟩ := Zo e
  exact ⟨ι, σd, Hd, x, H1, s, hr, e1, fun v1 H1' ι1 l1 h1 r1 => ⟨Ztl h1 r1 hl, ι1, σd, H1, y, H2, s.mono l1, h1, e2, fun vs H2' ι2 l2 h2 r2 =>
   ⟨ι2, x, y, H2, d, Hd', h2, r1.mono l2, r2, e, fun v H' ι' l h r => q v H' ι' ((l1.trans l2).trans l) h r⟩⟩⟩
 ·cases e
nonrec def Zaj : SF := fun σ H => some (.nx, σ, H)
nonrec def Zaf (f g : SF) : SF := fun σ H => (f σ H).bind fun r => match r.1 with
 | .nx => g r.2.1 r.2.2
 | _ => some r
theorem Zh0 : Zmv X [] Zaj := by
 refine Zzj Zsd fun E σ H zz => ?_
 obtain ⟨ι, σd, Hd, fl, σd', Hd', s, hr, e, q⟩ := zz
 cases e
 exact q σ H ι Le.refl hr s
theorem Zgi {f g : SF} (h1 : PSf X st f) (h2 : Zmv X sts g) : Zmv X (st :: sts) (Zaf f g) := by
 refine Zzj (Zf1 h1 h2) fun E σ H zz => ?_
 obtain ⟨ι, σd, Hd, fl, σd', Hd', s, hr, e, q⟩ := zz
 obtain ⟨⟨f1, σ1, H1⟩, e1, e⟩ := Zo e
 refine ⟨ι, σd, Hd, f1, σ1, H1, s, hr, e1, fun σ' H' ι' l h ss => ?_⟩
 cases f1 with
 | nx => exact ⟨ι', σ1, H1, fl, σd', Hd', ss, h, e, fun σ2 H2 ι2 l2 h2 s2 => q σ2 H2 ι2 (l.trans l2) h2 s2⟩
 | bk => cases e; exact q σ' H' ι' l h ss
 | ct => cases e; exact q σ' H' ι' l h ss
 | rt d => cases e; exact q σ' H' ι' l h ss
nonrec def Zaw (f : EF) : SF := fun σ H => (f σ H).map fun p => (.rt p.1, σ, p.2)
theorem Zey {f : EF} (he : PEf X e f) : PSf X (.Return (some e) pos) (Zaw f) := by
 refine PSi (Zvr he) fun E σ H zz => ?_
 obtain ⟨ι, σd, Hd, fl, σd', Hd', s, hr, e, q⟩ := zz
 obtain ⟨⟨x, H1⟩, e1, e⟩ := Zm e
 cases e
 exact ⟨ι, σd, Hd, x, H1, s, hr, e1, fun v H' ι' l h r => q σ H' ι' l h (s.mono l) v r⟩
nonrec def Zdf (f : EF) : SF := fun σ H => (f σ H).map fun p => (.nx, σ, p.2)
theorem Zty {f : EF} (he : PEf X e f) (hs : swapsWith e none pos.line X.env = pure false := by rfl) : PSf X (.Expr e pos) (Zdf f) := by
 refine PSi (Zq2 he hs) fun E σ H zz => ?_
 obtain ⟨ι, σd, Hd, fl, σd', Hd', s, hr, e, q⟩ := zz
 obtain ⟨⟨x, H1⟩, e1, e⟩ := Zm e
 cases e
 exact ⟨ι, σd, Hd, x, H1, s, hr, e1, fun v H' ι' l h r => q σ H' ι' l h (s.mono l)⟩
nonrec def sIf (t : TF) (f g : SF) : SF := fun σ H => (t σ H).bind fun p => if p.1 = true then f σ p.2 else g σ p.2
theorem Zwl {t : TF} {f g : SF} {as bs : List Vw} (hc : PTf X c t) (ha : Zmv X as f) (hb : Zmv X bs g) : PSf X (.If c as bs pos) (sIf t f g) := by
 refine PSi (Yaw hc ha hb) fun E σ H zz => ?_
 obtain ⟨ι, σd, Hd, fl, σd', Hd', s, hr, e, q⟩ := zz
 obtain ⟨⟨x, H1⟩, e1, e⟩ := Zo e
 refine ⟨ι, σd, Hd, x, H1, s, hr, e1, fun H' ι' l h => ?_⟩
 cases x with
 | true =>
  rw [if_pos rfl]
  exact ⟨ι', σd, H1, fl, σd', Hd', s.mono l, h, by simpa using e, fun σ2 H2 ι2 l2 h2 s2 => q σ2 H2 ι2 (l.trans l2) h2 s2⟩
 | false =>
  rw [if_neg (by simp)]
  exact ⟨ι', σd, H1, fl, σd', Hd', s.mono l, h, by simpa using e, fun σ2 H2 ι2 l2 h2 s2 => q σ2 H2 ι2 (l.trans l2) h2 s2⟩
nonrec def Zax (i : Nat) (f : EF) : SF := fun σ H => (f σ H).map fun p => (.nx, σ.set i (some p.1), p.2)
theorem Za9 {i : Nat} {x : Str} {f : EF} {pos' : Pos} (hN : X.N.Nodup) (hi : X.N[i]? = some x) (hx : Loc X.env.scope x) (he : PEf X e f) (hs : swapsWith e (some (.Name x pos')) pos.line X.env = pure false := by rfl) (hf : X.fn x = true ∨ X.env.scope.names.lookup x = some .local := by first | exact .inl rfl | exact .inr rfl | assumption) :
  PSf X (.Assign [.Name x pos'] e pos) (Zax i f) := by
 refine PSi (Zwg hN hi hx he hs hf) fun E σ H zz => ?_
 obtain ⟨ι, σd, Hd, fl, σd', Hd', s, hr, e, q⟩ := zz
 obtain ⟨⟨x, H1⟩, e1, e⟩ := Zm e
 cases e
 exact ⟨ι, σd, Hd, x, H1, s, hr, e1, fun v H' ι' l h r => q _ H' ι' l h ((s.mono l).set r i)⟩
nonrec def gNm (i : Nat) : GF := fun d σ H => some (σ.set i (some d), H)
theorem Zcj {i : Nat} {x : Str} (hN : X.N.Nodup) (hi : X.N[i]? = some x) (hx : Loc X.env.scope x) (hf : X.fn x = true ∨ X.env.scope.names.lookup x = some .local := by first | exact .inl rfl | exact .inr rfl | assumption) : PGf X (.Name x pos) (gNm i) := by
 refine PGi (Zqb hN hi hx hf) fun v σ H Q zz => ?_
 obtain ⟨ι, σd, Hd, d, σd', Hd', s, hr, r, e, q⟩ := zz
 cases e
 exact q _ H ι Le.refl hr (s.set r i)
nonrec abbrev Zzl := D -> D -> D -> HD -> Option HD
nonrec def rdSet (K : Xa) (g : Zzl) : TSet := fun o i v H Q => ∃ ι od id vd Hd Hd', HRep K H ι Hd ∧ Rep K H ι od o ∧ Rep K H ι id i ∧ Rep K H ι vd v ∧ g od id vd Hd = some Hd' ∧ ∀ H' ι', Le K H ι H' ι' -> HRep K H' ι' Hd' -> Q H'
def Zz3 (X : Cx) (g : Zzl) : Prop := PSet X (rdSet X.K g)
nonrec def gSb (fo fi : EF) (g : Zzl) : GF := fun d σ H => (fo σ H).bind fun o => (fi σ o.2).bind fun i => (g o.1 i.1 d i.2).map fun H' => (σ, H')
theorem Zyn {o i : Vq} {fo fi : EF} {g : Zzl} (ho : PEf X o fo) (hi : PEf X i fi) (hs : Zz3 X g)
  (ha : ∀ v, assign (.Subscript o i pos) X.env v = (do
   let ov ← holding [v] (eval o X.env)
   let iv ← holding [v, ov] (eval i X.env)
   standAt pos
   holding [v, ov, iv] (setItem ov iv v)
   release [v, ov, iv] []) := by intro _; rfl) : PGf X (.Subscript o i pos) (gSb fo fi g) := by
 refine PGi (Ych ho hi hs ha) fun v σ H Q zz => ?_
 obtain ⟨ι, σd, Hd, d, σd', Hd', s, hr, r, e, q⟩ := zz
 obtain ⟨⟨x, H1⟩, e1, e⟩ := Zo e
 obtain ⟨⟨y, H2⟩, e2, e⟩ := Zo e
 obtain ⟨H3, e3, e⟩ := Zm e
 obtain ⟨rfl, rfl⟩ := Wba.inj e
 exact ⟨ι, σd, Hd, x, H1, s, hr, e1, fun v1 H1' ι1 l1 h1 r1 => ⟨ι1, σd, H1, y, H2, s.mono l1, h1, e2, fun v2 H2' ι2 l2 h2 r2 =>
  ⟨ι2, x, y, d, H2, H3, h2, r1.mono l2, r2, r.mono (l1.trans l2), e3, fun H' ι' l h => q σ H' ι' ((l1.trans l2).trans l) h (s.mono ((l1.trans l2).trans l))⟩⟩⟩
nonrec abbrev GFs := List D -> SD -> HD -> Option (SD × HD)
nonrec def rdGs (K : Xa) (g : GFs) : TGs := fun vs σ H Q => ∃ ι σd Hd ds σd' Hd', SRep K H ι σ σd ∧ HRep K H ι Hd ∧ Vh (Rep K H ι) ds vs ∧ g ds σd Hd = some (σd', Hd') ∧
 ∀ σ' H' ι', Le K H ι H' ι' -> HRep K H' ι' Hd' -> SRep K H' ι' σ' σd' -> Q σ' H'
def PGsf (X : Cx) (ts : List Vq) (g : GFs) : Prop := PGs X ts (rdGs X.K g)
nonrec def gNl : GFs := fun ds σ H => match ds with
 | [] => some (σ, H)
 | _ => none
nonrec def gCn (g : GF) (h : GFs) : GFs := fun ds σ H => match ds with
 | d :: r => (g d σ H).bind fun p => h r p.1 p.2
 | [] => none
theorem PGsi {ts : List Vq} {t t' : TGs} (h : PGs X ts t) (i : ∀ v σ H Q, t' v σ H Q -> t v σ H Q) : PGs X ts t' := fun pins s σ H v u Q I r q => h pins s σ H v u Q I r (i v σ H Q q)
theorem Ztp : PGsf X [] gNl := by
 refine PGsi Zxx fun vs σ H Q zz => ?_
 obtain ⟨ι, σd, Hd, ds, σd', Hd', s, hr, r, e, q⟩ := zz
 cases r with
 | nil => cases e; exact ⟨rfl, q σ H ι Le.refl hr s⟩
 | cons _ _ => cases e
theorem Zk2 {g : GF} {h : GFs} (h1 : PGf X e g) (h2 : PGsf X es h) (hs : (assignEach (e :: es) X.env).map (·.2) = assign e X.env :: (assignEach es X.env).map (·.2) := by rfl) : PGsf X (e :: es) (gCn g h) := by
 refine PGsi (Zui h1 h2 hs) fun vs σ H Q zz => ?_
 obtain ⟨ι, σd, Hd, ds, σd', Hd', s, hr, r, e, q⟩ := zz
 cases r with
 | nil => cases e
 | cons r rr =>
  obtain ⟨⟨σ1, H1⟩, e1, e⟩ := Zo e
  exact ⟨_, _, rfl, ι, σd, Hd, _, σ1, H1, s, hr, r, e1, fun σ' H' ι' l h ss => ⟨ι', σ1, H1, _, σd', Hd', ss, h, Prd.mono l rr, e, fun σ2 H2 ι2 l2 h2 s2 => q σ2 H2 ι2 (l.trans l2) h2 s2⟩⟩
nonrec def gTp (n : Nat) (g : GFs) : GF := fun d σ H => match d with
 | .tup ds => if ds.length = n then g ds σ H else none
 | _ => none
theorem Zij {k n : Nat} {g : GFs} (hc : X.calm = true) (h : PGsf X es g) (hn : (assignEach es X.env).length = n := by rfl) (hst : (assignEach es X.env).findIdx? (·.1) = none := by rfl) : PGf X (.Tuple es k pos) (gTp n g) := by
 refine PGi (Ybl hc h hn hst) fun v σ H Q zz => ?_
 obtain ⟨ι, σd, Hd, d, σd', Hd', s, hr, r, e, q⟩ := zz
 cases d with
 | tup ds =>
  obtain ⟨a, vs, rfl, h1, p⟩ := Zbj.mp r
  simp only [gTp] at e
  split at e
  ·rename_i hl
   exact ⟨a, vs, rfl, h1, by rw [← Prd.len p]; exact hl, ι, σd, Hd, ds, σd', Hd', s, hr, p, e, q⟩
  ·cases e
 | _ => simp [gTp] at e
nonrec def Yck (f : EF) (g : GF) : SF := fun σ H => (f σ H).bind fun p => (g p.1 σ p.2).map fun q => (.nx, q.1, q.2)
theorem Zrg {tg : Vq} {f : EF} {g : GF} (he : PEf X e f) (hg : PGf X tg g) (hs : swapsWithSole [tg] e pos.line X.env = pure false := by rfl) (hw : swappedStores [tg] e X.env = pure none := by rfl)
  (h1 : (assignEach [tg] X.env).map (·.2) = [assign tg X.env] := by rfl) : PSf X (.Assign [tg] e pos) (Yck f g) := by
 refine PSi (Zzr he hg hs hw h1) fun E σ H zz => ?_
 obtain ⟨ι, σd, Hd, fl, σd', Hd', s, hr, e, q⟩ := zz
 obtain ⟨⟨x, H1⟩, e1, e⟩ := Zo e
 obtain ⟨⟨σ2, H2⟩, e2, e⟩ := Zm e
 cases e
 exact ⟨ι, σd, Hd, x, H1, s, hr, e1, fun v H' ι' l h r => ⟨ι', σd, H1, x, σ2, H2, s.mono l, h, r, e2, fun σ3 H3 ι3 l3 h3 s3 => q σ3 H3 ι3 (l.trans l3) h3 s3⟩⟩
nonrec abbrev Zhn := List (Nat × DO)
def Zct (own : Zhn) (H : HD) : Prop := ∀ p ∈ own, H[p.1]? = some p.2
nonrec abbrev ItF := SD -> HD -> Option ((List D × Zhn) × HD)
structure ItRep (K : Xa) (J : It) (xs : List D) (own : Zhn) (H0 : Hp) (ι0 : List Ve) : Prop where
 go : ∀ i H ι Hd, Le K H0 ι0 H ι -> HRep K H ι Hd -> Zct own Hd -> i < xs.length -> J.go i H
 yld : ∀ i H ι Hd d x H', Le K H0 ι0 H ι -> HRep K H ι Hd -> Zct own Hd -> xs[i]? = some d -> J.yld i H x H' -> ∃ ι', Le K H ι H' ι' ∧ HRep K H' ι' Hd ∧ Rep K H' ι' d x
 stop : ∀ i H ι Hd, Le K H0 ι0 H ι -> HRep K H ι Hd -> Zct own Hd -> xs.length ≤ i -> J.stop i H
nonrec def rdI (K : Xa) (f : ItF) : TI := fun σ H R => ∃ ι σd Hd xs own Hd', SRep K H ι σ σd ∧ HRep K H ι Hd ∧ f σd Hd = some ((xs, own), Hd') ∧ ∀ J H' ι', Le K H ι H' ι' -> HRep K H' ι' Hd' -> ItRep K J xs own H' ι' -> R J H'
def PIf (X : Cx) (tg iter : Vq) (f : ItF) : Prop := PI X tg iter (rdI X.K f)
theorem PIi {tg iter : Vq} {t t' : TI} (h : PI X tg iter t) (i : ∀ σ H R, t' σ H R -> t σ H R) : PI X tg iter t' := fun pins s σ H R I q => h pins s σ H R I (i σ H R q)
open Classical in
nonrec def Zi4 (own : Zhn) (g : GF) (body : SF) : List D -> SF
 | [], σ, H => if Zct own H then some (.nx, σ, H) else none
 | x :: r, σ, H => if Zct own H then (g x σ H).bind fun p => (body p.1 p.2).bind fun q => match q.1 with
   | .nx => Zi4 own g body r q.2.1 q.2.2
   | .ct => Zi4 own g body r q.2.1 q.2.2
   | .bk => some (.nx, q.2.1, q.2.2)
   | .rt d => some (.rt d, q.2.1, q.2.2)
  else none
nonrec def Zgn (it : ItF) (g : GF) (body : SF) : SF := fun σ H => (it σ H).bind fun p => Zi4 p.1.2 g body p.1.1 σ p.2
theorem Zze {tg iter : Vq} {body : List Vw} {f : ItF} {g : GF} {b : SF} (hp : Ubb (model X.prog X.w) X.A X.env X.xe) (hc : X.calm = true) (hi : PIf X tg iter f) (hg : PGf X tg g) (hb : Zmv X body b)
  (hs : ∀ x, foldedSetIterable iter X.env x = pure x := by intro _; rfl) : PSf X (.For tg iter body [] pos) (Zgn f g b) := by
 refine PSi (Zwn hp hc hi hg hb hs) fun E σ H zz => ?_
 obtain ⟨ι, σd, Hd, fl, σf, Hf, s, hr, e, q⟩ := zz
 obtain ⟨⟨⟨xs, own⟩, H1⟩, e1, e⟩ := Zo e
 refine ⟨ι, σd, Hd, xs, own, H1, s, hr, e1, fun J H0 ι0 l0 h0 it => ?_⟩
 refine ⟨fun i m σ H => m = xs.length - i ∧ i ≤ xs.length ∧ ∃ ι σd Hd, Le X.K H0 ι0 H ι ∧ SRep X.K H ι σ σd ∧ HRep X.K H ι Hd ∧ Zi4 own g b (xs.drop i) σd Hd = some (fl, σf, Hf),
  ⟨xs.length, by simp, Wak _, ι0, σd, H1, Le.refl, s.mono l0, h0, by simpa using e⟩, ?_⟩
 rintro i m σ2 H2 ⟨rfl, hi, ι2, σd2, Hd2, l2, s2, h2, e2⟩
 by_cases hlt : i < xs.length
 ·have ed : xs.drop i = xs[i] :: xs.drop (i + 1) := Wbq hlt
  rw [ed, Zi4] at e2
  split at e2
  ·rename_i ok
   obtain ⟨⟨σ3, H3⟩, e3, e2⟩ := Zo e2
   obtain ⟨⟨f4, σ4, H4⟩, e4, e2⟩ := Zo e2
   refine .inr ⟨it.go i H2 ι2 Hd2 l2 h2 ok hlt, fun σ' H' => (xs.length - (i + 1) = xs.length - (i + 1) ∧ i + 1 ≤ xs.length ∧ ∃ ι σd Hd, Le X.K H0 ι0 H' ι ∧ SRep X.K H' ι σ' σd ∧ HRep X.K H' ι Hd ∧ Zi4 own g b (xs.drop (i + 1)) σd Hd = some (fl, σf, Hf)),
    fun σ' H' p => ⟨_, by omega, p⟩, fun x H' y => ?_⟩
   obtain ⟨ι3, l3, h3, r3⟩ := it.yld i H2 ι2 Hd2 xs[i] x H' l2 h2 ok (by simp [hlt]) y
   refine ⟨ι3, σd2, Hd2, xs[i], σ3, H3, s2.mono l3, h3, r3, e3, fun σ5 H5 ι5 l5 h5 s5 => ?_⟩
   refine ⟨ι5, σ3, H3, f4, σ4, H4, s5, h5, e4, fun σ6 H6 ι6 l6 h6 s6 => ?_⟩
   have L : Le X.K H0 ι0 H6 ι6 := ((l2.trans l3).trans l5).trans l6
   cases f4 with
   | nx => exact ⟨rfl, hlt, ι6, σ4, H4, L, s6, h6, e2⟩
   | ct => exact ⟨rfl, hlt, ι6, σ4, H4, L, s6, h6, e2⟩
   | bk => cases e2; exact q σ6 H6 ι6 (l0.trans L) h6 s6
   | rt d => cases e2; exact q σ6 H6 ι6 (l0.trans L) h6 s6
  ·cases e2
 ·have hi' : i = xs.length := by omega
  rw [Wcr (by omega), Zi4] at e2
  split at e2
  ·rename_i ok
   have e3 : (FD.nx, σd2, Hd2) = (fl, σf, Hf) := Waa.inj e2
   obtain ⟨rfl, e4⟩ := Wba.inj e3
   obtain ⟨rfl, rfl⟩ := Wba.inj e4
   exact .inl ⟨it.stop i H2 ι2 _ l2 h2 ok (by omega), q σ2 H2 ι2 (l0.trans l2) h2 s2⟩
  ·cases e2
end
nonrec def Za0 (n N : Nat) (b : SF) : FF := fun ds H => if ds.length = n then (b (ds.map some ++ Xg (N - ds.length) none) H).bind fun r => match r.1 with
  | .rt d => some (d, r.2.2)
  | .nx => some (.non, r.2.2)
  | _ => none
 else none
section
variable {P : Vf} {w : Vk} {K : Xa} {mg : Str -> Option Vb} {base : Vu}
theorem fn_f {x qual : Str} {st : Vw} {f : Ve} {fd : Vy} {N ps : List Str} {k : Nat} {b : SF} (F : Fun K x qual st f fd) (S : FnScope N ps (Zad st))
  (hb : ∀ (cdv : Vb) (A : Vo) (outer : List Env) (s : Vd) (H : Hp) (E : XK), Room k (A.deeper (envOfC qual (Zad st) s.heap.objs.size f cdv)) →
   Zmv (Zfy CX0 P w K mg base N qual (Zad st) f cdv A outer s H E).nox (Zb7 st) b) : FnOk P w K mg base CX0 (k + 1) f fd ps (spF K ps.length (Za0 ps.length N.length b)) := by
 refine F.ok S (fun vs H Q E h => ?_) (fun cdv A outer s H vs Q E hr h => ?_)
 ·obtain ⟨ι, ds, Hd, d, Hd', hl, _, r, _⟩ := h
  rw [← Prd.len r]; exact hl
 ·obtain ⟨ι, ds, Hd, d, Hd', hl, hh, r, e, q⟩ := h
  refine ⟨_, hb cdv A outer s H E hr, ?_⟩
  unfold Za0 at e
  rw [if_pos hl] at e
  obtain ⟨⟨fl, σ1, H1⟩, e1, e⟩ := Zo e
  refine ⟨ι, _, Hd, fl, σ1, H1, ?_, hh, e1, fun σ' H' ι' l h ss => ?_⟩
  ·refine ⟨by simp [L2.start, Prd.len r], fun i d0 h0 => ?_⟩
   unfold L2.start
   by_cases hi : i < ds.length
   ·rw [Xx (by simpa using hi), Waf] at h0
    cases ed : ds[i]? with
    | none => rw [ed] at h0; cases h0
    | some d1 =>
     rw [ed] at h0
     cases h0
     obtain ⟨v, hv, rv⟩ := Prd.get r ed
     refine ⟨v, ?_, rv⟩
     rw [Xx (by rw [Xk, ← Prd.len r]; exact hi), Waf, hv]
     rfl
   ·rw [Waq (by simpa using hi), Wcm] at h0
    split at h0 <;> cases h0
  ·cases fl with
   | rt d1 => cases e; exact fun v rv => q v H' ι' l h rv
   | nx => cases e; exact q .non H' ι' l h (by simp)
   | bk => cases e
   | ct => cases e
end
nonrec def Zlh (env : Env) : List (Str × Uam) -> List (Str × Ve) -> List (Str × Ve)
 | [], cs => cs
 | (n, k) :: r, cs => Zlh env r (if k = .free then (match env.cells.lookup n with | some a => (n, a) :: cs | none => cs) else cs)
theorem Zjn (env : Env) (scope : Ubi) (h : ∀ y ∈ scope.names, y.2 = .free -> (env.cells.lookup y.1).isSome = true) : closureFor scope env = pure (Zlh env scope.names []) := by
 have key : ∀ (ns : List (Str × Uam)) (cs : List (Str × Ve)), (∀ y ∈ ns, y.2 = .free -> (env.cells.lookup y.1).isSome = true) →
   (forIn ns cs fun (x : Str × Uam) cs => match x with
    | (name, kind) => if (kind == .free) = true then (do let a ← cellOf env name; pure (Tak ((name, a) :: cs))) else pure (Tak cs) : Sem (List (Str × Ve))) = pure (Zlh env ns cs) := by
  intro ns
  induction ns with
  | nil => intro cs _; rfl
  | cons x r ih =>
   intro cs hh
   obtain ⟨n, k⟩ := x
   have hr := ih
   rw [List.forIn_cons]
   by_cases hk : k = .free
   ·subst hk
    have q := hh (n, .free) (by simp) rfl
    cases e : env.cells.lookup n with
    | none => rw [e] at q; cases q
    | some a =>
     have e2 : cellOf env n = pure a := by unfold cellOf; rw [e]
     simp only [beq_self_eq_true, if_true, e2, pure_bind, Zlh, e]
     exact ih _ fun y hy => hh y (Xw _ hy)
   ·have hb : (k == Uf) = false := by simpa using hk
    simp only [hb, Wbb, if_false, pure_bind, Zlh, hk]
    exact ih _ fun y hy => hh y (Xw _ hy)
 have e : closureFor scope env = ((forIn scope.names [] fun (x : Str × Uam) cs => match x with
    | (name, kind) => if (kind == .free) = true then (do let a ← cellOf env name; pure (Tak ((name, a) :: cs))) else pure (Tak cs) : Sem (List (Str × Ve))) >>= pure) := rfl
 rw [e, bind_pure]
 exact key scope.names [] h
theorem Zkq (env : Env) : ∀ (ns : List (Str × Uam)) (cs : List (Str × Ve)), (∀ x c, cs.lookup x = some c -> env.cells.lookup x = some c) -> ∀ x c, (Zlh env ns cs).lookup x = some c -> env.cells.lookup x = some c
 | [], cs, h => h
 | (n, k) :: r, cs, h => by
  unfold Zlh
  refine Zkq env r _ ?_
  split
  ·cases e : env.cells.lookup n with
   | none => exact h
   | some a =>
    intro x c q
    dsimp only at q
    rw [Wat] at q
    split at q
    ·rename_i hb
     have hb' : x = n := by simpa using hb
     subst hb'; cases q; exact e
    ·exact h x c q
  ·exact h
theorem Zn8 (env : Env) : ∀ (ns : List (Str × Uam)) (cs : List (Str × Ve)) (x : Str), ((cs.lookup x).isSome = true ∨ ((x, Uf) ∈ ns ∧ (env.cells.lookup x).isSome = true)) -> ((Zlh env ns cs).lookup x).isSome = true
 | [], cs, x, h => by
  rcases h with h | ⟨h, _⟩
  ·exact h
  ·simp at h
 | (n, k) :: r, cs, x, h => by
  unfold Zlh
  refine Zn8 env r _ x ?_
  by_cases hk : k = .free
  ·rw [if_pos hk]
   cases e : env.cells.lookup n with
   | none =>
    rcases h with h | ⟨h, h2⟩
    ·exact .inl h
    ·rcases Xn.mp h with h | h
     ·cases h; rw [e] at h2; cases h2
     ·exact .inr ⟨h, h2⟩
   | some a =>
    dsimp only
    rw [Wat]
    by_cases hx : x = n
    ·subst hx; simp
    ·have : (x == n) = false := by simpa using hx
     rw [this]
     rcases h with h | ⟨h, h2⟩
     ·exact .inl h
     ·rcases Xn.mp h with h | h
      ·cases h; exact absurd rfl hx
      ·exact .inr ⟨h, h2⟩
  ·rw [if_neg hk]
   rcases h with h | ⟨h, h2⟩
   ·exact .inl h
   ·rcases Xn.mp h with h | h
    ·cases h; exact absurd rfl hk
    ·exact .inr ⟨h, h2⟩
theorem Zii {env : Env} : ∀ {names : List (Str × Uam)} {x : Str}, names.lookup x = some .free →
  ((names.map fun (n, k) => if (k == Uf && env.scope.kind == .function && env.kindOf n == some .cell) then (n, Tad) else (n, k)).lookup x = some .cell ∨
   (names.map fun (n, k) => if (k == Uf && env.scope.kind == .function && env.kindOf n == some .cell) then (n, Tad) else (n, k)).lookup x = some .free)
 | [], _, h => by simp at h
 | (n, k) :: r, x, h => by
  have ih := @Zii env r x
  show Wch x ((if (k == Uf && env.scope.kind == .function && env.kindOf n == some .cell) = true then (n, Tad) else (n, k)) :: _) = _ ∨ Wch x ((if (k == Uf && env.scope.kind == .function && env.kindOf n == some .cell) = true then (n, Tad) else (n, k)) :: _) = _
  cases hx : x == n with
  | true =>
   simp only [Wat, hx] at h
   cases h
   by_cases hc : (Uf == Uf && env.scope.kind == .function && env.kindOf n == some .cell) = true
   ·rw [if_pos hc]; simp only [Wat, hx]; simp
   ·rw [if_neg hc]; simp only [Wat, hx]; simp
  | false =>
   simp only [Wat, hx] at h
   by_cases hc : (k == Uf && env.scope.kind == .function && env.kindOf n == some .cell) = true
   ·rw [if_pos hc]; simp only [Wat, hx]; exact ih h
   ·rw [if_neg hc]; simp only [Wat, hx]; exact ih h
theorem Zhb {env : Env} : ∀ {names : List (Str × Uam)} {x : Str}, (∀ y ∈ names, y.2 ≠ .cell) →
  ((names.map fun (n, k) => if (k == Uf && env.scope.kind == .function && env.kindOf n == some .cell) then (n, Tad) else (n, k)).lookup x = some .cell ∨
   (names.map fun (n, k) => if (k == Uf && env.scope.kind == .function && env.kindOf n == some .cell) then (n, Tad) else (n, k)).lookup x = some .free) -> (x, Uf) ∈ names
 | [], _, _, h => by simp at h
 | (n, k) :: r, x, hn, h => by
  have ih := @Zhb env r x (fun y hy => hn y (Xw _ hy))
  have h : Wch x ((if (k == Uf && env.scope.kind == .function && env.kindOf n == some .cell) = true then (n, Tad) else (n, k)) :: _) = _ ∨ Wch x ((if (k == Uf && env.scope.kind == .function && env.kindOf n == some .cell) = true then (n, Tad) else (n, k)) :: _) = _ := h
  cases hx : x == n with
  | true =>
   have hx' : x = n := by simpa using hx
   subst hx'
   by_cases hc : (k == Uf && env.scope.kind == .function && env.kindOf x == some .cell) = true
   ·have hk : k = .free := by
     rw [Xv, Xv] at hc
     simpa using hc.1.1
    subst hk; simp
   ·rw [if_neg hc] at h
    simp only [Wat, hx] at h
    rcases h with h | h
    ·cases h; exact absurd rfl (hn (x, .cell) (by simp))
    ·cases h; simp
  | false =>
   refine Xw _ (ih ?_)
   by_cases hc : (k == Uf && env.scope.kind == .function && env.kindOf n == some .cell) = true
   ·rw [if_pos hc] at h; simp only [Wat, hx] at h; exact h
   ·rw [if_neg hc] at h; simp only [Wat, hx] at h; exact h
nonrec def blk (X : Cx) (scope : Ubi) (N : List Str) (cl : List (Str × Ve)) (C : Ve) (s : Vd) (H : Hp) (fp : List Ve) (pn : List (Ve × Obj)) : Cx where
 prog := X.prog
 w := X.w
 K := X.K
 mg := X.mg
 base := X.base
 A := X.A
 N := N
 s₀ := s
 H₀ := H
 env := compEnvC scope cl C X.env
 outer := X.stack
 stack := X.stack
 ex := fp
 fn := fun _ => false
 calm := X.calm
 pn := pn
 xe := fun _ _ => False
structure BlkOk (X : Cx) (scope : Ubi) (x : Str) (cn : List Str) (ci : List Nat) : Prop where
 kind : scope.kind = .function
 nocell : ∀ y ∈ scope.names, y.2 ≠ .cell
 names : ∀ y ∈ scope.names, y.2 = .local -> scope.names.lookup y.1 = some .local
 tgt : scope.names.lookup x = some .local
 free : ∀ y ∈ scope.names, y.2 = .free -> (X.env.cells.lookup y.1).isSome = true
 nd : (x :: cn).Nodup
 len : ci.length = cn.length
 cap : ∀ (j : Nat) (y : Str), cn[j]? = some y -> ∃ i, ci[j]? = some i ∧ X.N[i]? = some y ∧ scope.names.lookup y = some .free ∧ (X.env.kindOf y = some .cell ∨ X.env.kindOf y = some .free)
nonrec def Zpz (ci : List Nat) (σ : L2.St) : L2.St := ci.map fun i => (σ[i]?).join
section
variable {X : Cx} {pins : List (Ve × Obj)} {σ : L2.St} {H : Hp} {s : Vd} {scope : Ubi} {x : Str} {cn : List Str} {ci : List Nat} {fp : List Ve}
theorem Zyq {h₁ : Vu} {tk : Nat} {o₁ : Obj} (I : Inv X pins σ H s) (B : BlkOk X scope x cn ci) (hf : ∀ b ∈ fp, Zsv X pins H b) (hlt : ∀ b ∈ fp, b < s.heap.objs.size)
  (hns : h₁.Ns s.heap.objs.size (fun _ => none)) (hsb : Xz s.heap.objs.size (s.heap.push o₁) h₁) :
  Inv (blk X scope (x :: cn) (Zlh X.env scope.names []) s.heap.objs.size s H fp (X.pn ++ pins)) [] (none :: Zpz ci σ) H { s with heap := h₁, toks := tk } := by
 have old : ∀ b o, s.heap.get? b = some o -> h₁.get? b = some o := fun b o e => hsb.extBut b o (Xo (Xe e)) (Xb _ e)
 have sub := Zkq X.env scope.names [] (by intro x c h; simp at h)
 have has : ∀ y, (y, Uf) ∈ scope.names -> ∃ c, (Zlh X.env scope.names []).lookup y = some c := fun y hy =>
  Wcj.mp (Zn8 X.env scope.names [] y (.inr ⟨hy, B.free _ hy rfl⟩))
 refine ⟨⟨I.ok.mod, B.kind, I.ok.glob, I.ok.blt, Xc _, fun y z c h1 h2 => I.ok.inj y z c (sub y c h1) (sub z c h2), fun y hy => has y (Zhb B.nocell hy), fun y c hy => absurd hy (by show ¬ (false = true); simp), I.ok.hd, I.ok.frames, .inl rfl,
   fun b hb => ⟨Xo (hlt b hb), fun y c e => (hf b hb).2.2.2.2.1 y c (sub y c e)⟩, I.bs, Xp I.ok.bsz I.sz, fun b o e hb => ?_, fun b hb z => ?_, I.stack, I.stkFree⟩,
  rfl, I.bare, Un.kept old, ⟨_, hns, fun i y v h1 h2 h3 => ?_⟩, fun y c e => ?_, I.hok.fresh (Xc _), fun y c e => I.freeC y c (sub y c e), fun p hp => ?_, I.hok.kept old, ?_⟩
 ·rcases (hf b hb).2.2.2.1 with z | z
  ·exact I.ok.noex b o e z
  ·exact absurd (Xl (Xe e) (Xp I.ok.bsz z)) (Wbd _)
 ·exact (Xn.mp (I.stkSub b z)).elim (hf b hb).2.1 (hf b hb).2.2.1
 ·cases i with
  | zero => simp at h2
  | succ j =>
   have h1' : cn[j]? = some y := by simpa [blk] using h1
   have h2' : (Zpz ci σ)[j]? = some (some v) := by simpa using h2
   obtain ⟨i, e1, e2, e3, e4⟩ := B.cap j y h1'
   have e5 : σ[i]? = some (some v) := by
    unfold Zpz at h2'
    rw [Waf, e1] at h2'
    simp at h2'
    cases e : σ[i]? with
    | none => rw [e] at h2'; cases h2'
    | some o => rw [e] at h2'; simp at h2'; rw [h2']
   obtain ⟨m, hn, hl⟩ := I.loc
   have hv : Vis X.env.scope y := by
    rcases e4 with e4 | e4
    ·exact .inr (.inl e4)
    ·exact .inr (.inr e4)
   obtain ⟨u, r, l⟩ := hl i y v e2 e5 hv
   refine ⟨u, r, .inr ⟨Zii e3, ?_⟩⟩
   obtain ⟨c, ec⟩ := has y (Uv e3)
   refine ⟨c, ec, ?_⟩
   rcases l with ⟨l, _⟩ | ⟨_, c', ec', hc⟩
   ·rcases e4 with e4 | e4 <;> rw [e4] at l <;> cases l
   ·rw [sub y c ec] at ec'
    cases ec'
    obtain ⟨ob, q1, q2⟩ := hc
    exact ⟨ob, old _ _ q1, q2⟩
 ·obtain ⟨v, ob, q1, q2⟩ := I.cell y c (sub y c e)
  exact ⟨v, ob, old _ _ q1, q2⟩
 ·have hp' : p ∈ X.pn ++ pins := by simpa [blk] using hp
  obtain ⟨q1, q2, q3, q4, q5⟩ := I.pin p hp'
  refine ⟨old _ _ q1, q2, Xo (Xe q1), fun z => ?_, q5⟩
  exact (Xn.mp (I.stkSub p.1 z)).elim q3 q4
 ·simp [blk, Zpz, B.len]
def PTs (X : Cx) (ifs : List Vq) (t : TT) : Prop :=
 ∀ (pins : List (Ve × Obj)) (s : Vd) (σ : L2.St) (H : Hp) (Q : Bool -> Hp -> Prop), Inv X pins σ H s -> t σ H Q →
  wpAny (model X.prog X.w) X.A (forIn ifs true fun c r => if r = true then do let ok ← isTrue c X.env (eval c X.env); pure (Tak ok) else pure (Tak r)) (TP X pins σ Q) X.xe s
theorem Zzg : PTs X [] (fun _ H Q => Q true H) := fun _ _ _ H _ I h => wpAny_tests_nil ⟨H, I, h⟩
theorem Zxd {c : Vq} {t : TT} (h : PT X c t) : PTs X [c] t := fun pins s σ H Q I q => wpAny_tests_one (h pins s σ H Q I q)
def LcW (J : It) (ci : List Nat) (tt : TT) (te : TE) (σ : L2.St) (Q : VK) (H1 : Hp) : Prop := ∀ p, H1 p = none -> ∃ W : Nat -> Nat -> List V -> Hp -> Prop, (∃ m, W 0 m [] (upd H1 p (.lst []))) ∧ ∀ i m ys H, W i m ys H →
 H p = some (.lst ys) ∧ ((J.stop i H ∧ Q (.ref p) H) ∨ (J.go i H ∧ ∀ v H', J.yld i H v H' -> tt (some v :: Zpz ci σ) H' fun b H2 =>
  if b = true then te (some v :: Zpz ci σ) H2 fun y H3 => H3 p = some (.lst ys) ∧ ys.length < sizeLine ∧ ∃ m', m' < m ∧ W (i + 1) m' (ys ++ [y]) (upd H3 p (.lst (ys ++ [y])))
  else ∃ m', m' < m ∧ W (i + 1) m' ys H2))
structure Gone (X : Cx) (pins : List (Ve × Obj)) (H : Hp) (s : Vd) (C : Ve) : Prop where
 ns : ∃ m, s.heap.Ns C m
 free : H C = none
 nl : C ≠ X.env.locals
 up : X.s₀.heap.objs.size ≤ C
 nc : ∀ x c, X.env.cells.lookup x = some c -> c ≠ C
 np : ∀ p ∈ X.pn ++ pins, p.1 ≠ C
theorem Gone.go {σ : L2.St} {h' : Vu} {C : Ve} (g : Gone X pins H s C) (I : Inv X pins σ H s) (hs : Xz C s.heap h') : Inv X pins σ H { s with heap := h' } :=
 I.turned (t' := s.toks) (fun b o hb e => hs.extBut b o hb e) g.free g.nl (.inr g.up) g.nc g.np
theorem Zn9 {elt iter : Vq} {px pos : Pos} {ifs : List Vq} {tt : TT} {te : TE} {Q : VK} {E : Vb -> Vd -> Prop} {RR : Vb -> Ve -> Result -> Vd -> Prop} {it : Ve} {tn : Nat -> Vu -> Prop} {J : It}
  (I : Inv X pins σ H s) (hc : X.calm = true) (B : BlkOk X scope x cn ci) (T : Turn X.prog X.w X.K (.Name x px) J fp it tn) (st : tn 0 s.heap) (hf : ∀ b ∈ fp, Zsv X pins H b)
  (ht : ∀ cl C s H fp pn, PTs (blk X scope (x :: cn) cl C s H fp pn) ifs tt) (he : ∀ cl C s H fp pn, PE (blk X scope (x :: cn) cl C s H fp pn) elt te)
  (hw : LcW J ci tt te σ Q H) (hRR : ∀ p C H' s', Inv X pins σ H' s' -> Gone X pins H' s' C -> Q (.ref p) H' -> RR (.ref p) C (.ok .next) s') :
  wpAny (model X.prog X.w) X.A (newList []) (fun acc s₃ => wpAny (model X.prog X.w) X.A (newFunctionEnv scope X.env.globals (Zlh X.env scope.names []) [] X.env.qual none .none (some X.env)) (fun cenv s₄ =>
   codeAny (model X.prog X.w) X.A (.compStart (.ListComp elt [⟨.Name x px, iter, ifs, 0⟩] scope pos) 0 (.ref it) acc { cenv with scope := relabel scope X.env }) (RR acc cenv.locals) s₄) E s₃) E s := by
 have hp0 : H s.heap.objs.size = none := I.hok.fresh (Xc _)
 obtain ⟨W, ⟨m0, w0⟩, turn⟩ := hw _ hp0
 refine Vi (wpAny_newFunctionEnv B.nocell (by intro y hy; simp at hy) (fun h₁ hns₁ hsb₁ => ?_) B.kind)
 dsimp only at hns₁ hsb₁ ⊢
 have I3 : Inv X pins σ (upd H s.heap.objs.size (.lst [])) { s with heap := s.heap.push { cls := .type "list", dict := none, data := .seq ([] : List Vb).toArray } } :=
  I.laid (t' := s.toks) (fun b u e => Xb _ e) (Xc _) ⟨Wak _, [], 0, .nil, Xf _ rfl⟩
 generalize hH3 : s.heap.push { cls := .type "list", dict := none, data := .seq ([] : List Vb).toArray } = hp3 at hns₁ hsb₁ I3 ⊢
 have flt : ∀ b ∈ fp, b < s.heap.objs.size := fun b hb => by
  obtain ⟨o, e, _⟩ := T.obj 0 _ st b hb
  exact Xe e
 have sz3 : hp3.objs.size = s.heap.objs.size + 1 := by rw [← hH3, Wbv]
 have f3 : ∀ b ∈ fp, Zsv X pins (upd H s.heap.objs.size (.lst [])) b := fun b hb => ⟨by rw [Zai (Xo (flt b hb))]; exact (hf b hb).1, (hf b hb).2⟩
 have old3 : ∀ b o, s.heap.get? b = some o -> hp3.get? b = some o := fun b o e => by rw [← hH3]; exact Xb _ e
 have I4 := Zyq (s := { s with heap := hp3 }) (tk := s.toks + ([] : List (Str × Vb)).length) I3 B f3 (fun b hb => by show b < hp3.objs.size; rw [sz3]; exact Wcz (flt b hb)) (by simpa using hns₁) hsb₁
 have old4 : ∀ b o, hp3.get? b = some o -> h₁.get? b = some o := fun b o e => hsb₁.extBut b o (Xo (Xe e)) (Xb _ e)
 generalize hX' : blk X scope (x :: cn) (Zlh X.env scope.names []) hp3.objs.size { s with heap := hp3 } (upd H s.heap.objs.size (.lst [])) fp (X.pn ++ pins) = X' at I4
 have ePr : X'.prog = X.prog := by rw [← hX']; rfl
 have eW : X'.w = X.w := by rw [← hX']; rfl
 have eK : X'.K = X.K := by rw [← hX']; rfl
 have eA : X'.A = X.A := by rw [← hX']; rfl
 have eEnv : X'.env = compEnvC scope (Zlh X.env scope.names []) hp3.objs.size X.env := by rw [← hX']; rfl
 have eEx : X'.ex = fp := by rw [← hX']; rfl
 have ht' : PTs X' ifs tt := by rw [← hX']; exact ht _ _ _ _ _ _
 have he' : PE X' elt te := by rw [← hX']; exact he _ _ _ _ _ _
 have eXe : X'.xe = fun _ _ => False := by rw [← hX']; rfl
 have hg' : PG X' (.Name x px) (Zp3 0) := by
  rw [← hX']
  exact Zqb (X := blk X scope (x :: cn) _ _ _ _ _ _) B.nd rfl (.inl (lookup_relabel_local B.tgt)) (.inr (lookup_relabel_local B.tgt))
 -- the iterator's objects, seen from the block
 have stat : ∀ {H' : Hp}, (∀ b ∈ fp, H' b = none) -> ∀ b ∈ fp, Zsv X' [] H' b := fun {H'} hn b hb => by
  rw [← hX']
  refine ⟨hn b hb, (by show b ≠ hp3.objs.size; rw [sz3]; exact Xo (Wcz (flt b hb))), fun z => (Xn.mp (I3.stkSub b z)).elim (hf b hb).2.1 (hf b hb).2.2.1, .inl hb, fun y c e => ?_, fun p hp => ?_⟩
  ·exact (hf b hb).2.2.2.2.1 y c (Zkq X.env scope.names [] (by intro x c h; simp at h) y c e)
  ·exact (hf b hb).2.2.2.2.2 p (by simpa [blk] using hp)
 have back : ∀ {σ' : L2.St} {H' : Hp} {s' : Vd}, Inv X' [] σ' H' s' -> Inv X pins σ H' s' ∧ Gone X pins H' s' hp3.objs.size := fun {σ' H' s'} I5 => by
  have u : Un (frs X.stack) fp (upd H s.heap.objs.size (.lst [])) H' hp3 s'.heap := by
   have := I5.base
   rw [← hX'] at this
   exact this
  have hok : HOk X.prog X.w H' s'.heap := by have := I5.hok; rw [ePr, eW] at this; exact this
  have ho : s'.os = s.os := by have := I5.os; rw [← hX'] at this; exact this
  refine ⟨I3.call' ho u hok I5.bare fun b hb => ⟨(hf b hb).2.2.2.1, (hf b hb).2.1, (hf b hb).2.2.2.2.1, (hf b hb).2.2.2.2.2⟩, ?_, ?_, ?_, ?_, fun y c e z => ?_, fun p hp z => ?_⟩
  ·obtain ⟨m, hn, _⟩ := I5.loc
   rw [eEnv] at hn
   exact ⟨m, hn⟩
  ·have := I5.free
   rw [eEnv] at this
   exact this
  ·exact Wbt (I3.lt)
  ·exact I3.sz
  ·obtain ⟨v, q⟩ := I3.cell y c e
   exact absurd (Xl q.lt (by rw [z]; exact Xc _)) (Wbd _)
  ·have := Xe (I3.pin p hp).1
   rw [z] at this
   exact Wbd _ this
 have loop : codeAny (model X.prog X.w) X.A (.compLoop (.ListComp elt [⟨.Name x px, iter, ifs, 0⟩] scope pos) 0 (.ref it) (.ref s.heap.objs.size) (compEnvC scope (Zlh X.env scope.names []) hp3.objs.size X.env))
   (RR (.ref s.heap.objs.size) hp3.objs.size) { s with heap := h₁, toks := s.toks + ([] : List (Str × Vb)).length } := by
  refine codeAny_loop rfl (fun n s' => ∃ i o ys H', Inv X' [] (o :: Zpz ci σ) H' s' ∧ tn i s'.heap ∧ (∀ b ∈ fp, H' b = none) ∧ W i n ys H') (fun n s' hI => ?_) m0
   ⟨0, none, [], _, I4, T.keep _ _ _ st (fun b hb o e => old4 b o (old3 b o e)), fun b hb => (f3 b hb).1, w0⟩
  obtain ⟨i, o, ys, H', I5, st5, fr5, w5⟩ := hI
  show wpAny _ X.A ((compTurn (.ListComp elt [⟨.Name x px, iter, ifs, 0⟩] scope pos) 0 (.ref it) (.ref s.heap.objs.size) (compEnvC scope (Zlh X.env scope.names []) hp3.objs.size X.env)).onRaise (fun x => do noteFrame x (compEnvC scope (Zlh X.env scope.names []) hp3.objs.size X.env); theTreesLotGoes x)) _ _ s'
  refine wpAny_noted ?_
  rw [compTurn_list, ← eEnv, ← ePr, ← eW, ← eA]
  refine Vn (E := fun _ _ => False) ?_ (fun _ _ q => q) (fun _ _ z => z.elim)
  obtain ⟨hpl, wt⟩ := turn i n ys H' w5
  refine Va (Uas (Va ?_))
  rcases wt with ⟨stop, q⟩ | ⟨go, step⟩
  ·have z := T.done X' ePr eW eK (by rw [← hX']; exact hc) i [] s' _ H' (fun _ _ => False) I5 (stat fr5) st5 stop
   rw [← ePr, ← eW] at z
   refine thn z fun r s6 zz => ?_
   obtain ⟨hr, I6⟩ := zz
   subst hr
   obtain ⟨J1, g1⟩ := back I6
   exact Vc (hRR _ _ H' s6 J1 g1 q)
  ·have z := T.item X' ePr eW eK (by rw [← hX']; exact hc) i [] s' _ H' (fun _ _ => False) I5 (stat fr5) st5 go
   rw [← ePr, ← eW] at z
   refine thn z fun r s6 zz => ?_
   obtain ⟨u, hr, h6⟩ := zz
   subst hr
   refine Va (thn h6 fun _ s7 zz => ?_)
   obtain ⟨v, H7, I7, r7, y7, st7, fr7⟩ := zz
   have I7' := I7.pinned (stat fr7) (T.obj _ _ st7)
   rw [← eXe]
   refine Va (thn (hg' _ s7 _ H7 v u _ I7' r7 (show Zp3 0 v (o :: Zpz ci σ) H7 (fun σ8 H8 => σ8 = some v :: Zpz ci σ ∧ H8 = H7) from ⟨rfl, rfl⟩)) fun _ s8 zz => ?_)
   obtain ⟨σ8, H8, I8, e8, e8'⟩ := zz
   subst e8 e8'
   refine Va (thn (ht' _ s8 _ _ _ I8 (step v _ y7)) fun b s9 zz => ?_)
   obtain ⟨H9, I9, q9⟩ := zz
   have tnK : ∀ {σ' : L2.St} {H' : Hp} {s' : Vd}, Inv X' (([] : List (Ve × Obj)) ++ Zlc fp s7.heap) σ' H' s' -> tn (i + 1) s'.heap ∧ ∀ b ∈ fp, H' b = none := fun {σ' H' s'} I' =>
    ⟨T.keep _ _ _ st7 fun b hb o e => (I'.pin (b, o) (Wae _ (Wae _ (Zfc hb e)))).1, fun b hb => by
     obtain ⟨ob, e, d⟩ := T.obj _ _ st7 b hb
     exact (I'.pin (b, ob) (Wae _ (Wae _ (Zfc hb e)))).2.1⟩
   cases b with
   | false =>
    obtain ⟨m', hm, w9⟩ := q9
    obtain ⟨t9, f9⟩ := tnK I9
    exact Vc ⟨rfl, m', hm, i + 1, _, ys, H9, I9.unpinned, t9, f9, w9⟩
   | true =>
    refine Va (Va (thn (he' _ s9 _ _ _ I9 q9) fun yv s10 zz => ?_))
    obtain ⟨y, H10, I10, r10, hp10, hz10, m', hm, w10⟩ := zz
    refine Va (thn (Zlt (X := X') _ s10 _ H10 (.ref s.heap.objs.size) [y] (.ref s.heap.objs.size) [yv] (fun _ H11 => H11 = upd H10 s.heap.objs.size (.lst (ys ++ [y]))) I10 rfl (.cons r10 .nil) ⟨_, ys, y, rfl, rfl, hp10, hz10, rfl⟩) fun _ s11 zz => ?_)
    obtain ⟨_, H11, I11, _, e11⟩ := zz
    subst e11
    obtain ⟨t11, f11⟩ := tnK I11
    exact Vc (Vc ⟨rfl, m', hm, i + 1, _, ys ++ [y], _, I11.unpinned, t11, f11, w10⟩)
 exact codeAny_compStart_list loop (T.self _ 0 _ _ _ (T.keep _ _ _ st (fun b hb o e => old4 b o (old3 b o e))) loop)
nonrec def tLC (wi : TI) (ci : List Nat) (tt : TT) (te : TE) : TE := fun σ H Q => wi σ H fun J H1 => LcW J ci tt te σ Q H1
theorem pe_lc {elt iter : Vq} {px pos : Pos} {ifs : List Vq} {wi : TI} {tt : TT} {te : TE} (hc : X.calm = true) (B : BlkOk X scope x cn ci) (hi : PI X (.Name x px) iter wi)
  (ht : ∀ cl C s H fp pn, PTs (blk X scope (x :: cn) cl C s H fp pn) ifs tt) (he : ∀ cl C s H fp pn, PE (blk X scope (x :: cn) cl C s H fp pn) elt te)
  (hs : ∀ x, foldedSetIterable iter X.env x = pure x := by rintro _; rfl) : PE X (.ListComp elt [⟨.Name x px, iter, ifs, 0⟩] scope pos) (tLC wi ci tt te) := by
 intro pins s σ H Q I h
 rw [eval_ListComp]
 refine Ubc (use := none) rfl hs (Zjn X.env scope B.free) B.kind B.names ?_
 refine thn (hi pins s σ H _ I h) fun v s1 h1 => thn h1 fun itv s2 h2 => ?_
 obtain ⟨it, fp, tn, J, H2, e, I2, T, st2, f2, w2⟩ := h2
 subst e
 refine Zn9 (RR := fun acc C => compPost (model X.prog X.w) X.A X.xe none (EP X pins σ Q) acc C) I2 hc B T st2 f2 ht he w2 fun p C H' s' I' g q => ?_
 obtain ⟨m, hn⟩ := g.ns
 exact ⟨m, hn, fun h' hs' => ⟨.ref p, H', g.go I' hs', rfl, q⟩⟩
theorem Zun {elt iter : Vq} {px py pos spos : Pos} {ifs : List Vq} {wi : TI} {tt : TT} {te : TE} {i : Nat} {y : Str} (hc : X.calm = true) (B : BlkOk X scope x cn ci) (hi : PI X (.Name x px) iter wi)
  (ht : ∀ cl C s H fp pn, PTs (blk X scope (x :: cn) cl C s H fp pn) ifs tt) (he : ∀ cl C s H fp pn, PE (blk X scope (x :: cn) cl C s H fp pn) elt te)
  (hN : X.N.Nodup) (hiN : X.N[i]? = some y) (hy : X.env.scope.names.lookup y = some .local)
  (hsw : swapsWith (.ListComp elt [⟨.Name x px, iter, ifs, 0⟩] scope pos) (some (.Name y py)) spos.line X.env = pure true := by rfl)
  (hs : ∀ x, foldedSetIterable iter X.env x = pure x := by rintro _; rfl) : PS X (.Assign [.Name y py] (.ListComp elt [⟨.Name x px, iter, ifs, 0⟩] scope pos) spos) (tAsg (tLC wi ci tt te) (Zp3 i)) := by
 intro pins s σ H E I h
 rw [exec_Assign_Name_used _ _ _ _ hsw]
 refine Va (Uas (Va ?_))
 show wpAny _ X.A (do let _ ← comprehension (.ListComp elt [⟨.Name x px, iter, ifs, 0⟩] scope pos) scope X.env _ (newList []) false (eval iter X.env) (some (assign (.Name y py) X.env))) _ _ s
 refine Va (Vn (Ubc (use := some (assign (.Name y py) X.env)) (Q := fun _ s' => SP X pins E .next s') rfl hs (Zjn X.env scope B.free) B.kind B.names ?_) (fun _ s' hq => Vc (Vc hq)) fun _ _ e => e)
 refine thn (hi pins s σ H _ I h) fun v s1 h1 => thn h1 fun itv s2 h2 => ?_
 obtain ⟨it, fp, tn, J, H2, e, I2, T, st2, f2, w2⟩ := h2
 subst e
 refine Zn9 (RR := fun acc C => compPost (model X.prog X.w) X.A X.xe (some (assign (.Name y py) X.env)) (fun _ s' => SP X pins E .next s') acc C) I2 hc B T st2 f2 ht he w2 fun p C H' s' I' g q => ?_
 show wpAny _ X.A (assign (.Name y py) X.env (.ref p)) _ _ _
 have hk : X.env.kindOf y = some .local := hy
 refine wpAny_assign_Name (Zl3 I' hN hiN (.inl hy) (v := .ref p) (u := .ref p) rfl (fun s'' I'' ch => ?_) (.inr hy))
 obtain ⟨m, hn⟩ := g.ns
 obtain ⟨a, hsb, ha⟩ := ch
 have haC : C ≠ a := by
  rcases ha with ha | ha
  ·rw [ha]; exact g.nl
  ·exact Ui (g.nc y a ha)
 have hn2 : s''.heap.Ns C m := hn.sameBut hsb haC
 exact ⟨m, hn2, fun h' hs' => ⟨_, H', Gone.go ⟨⟨m, hn2⟩, g.free, g.nl, g.up, g.nc, g.np⟩ I'' hs', q⟩⟩
end
nonrec def Zzk (ci : List Nat) (σd : SD) : SD := ci.map fun i => (σd[i]?).join
open Classical in
nonrec def Zeo (own : Zhn) (c0 : SD) (tt : TF) (te : EF) : List D -> HD -> Option (List D × HD)
 | [], H => if Zct own H then some ([], H) else none
 | x :: r, H => if Zct own H then (tt (some x :: c0) H).bind fun t => if t.1 = true then (te (some x :: c0) t.2).bind fun e => (Zeo own c0 tt te r e.2).map fun q => (e.1 :: q.1, q.2) else Zeo own c0 tt te r t.2 else none
nonrec def eLC (it : ItF) (ci : List Nat) (tt : TF) (te : EF) : EF := fun σ H => (it σ H).bind fun p => (Zeo p.1.2 (Zzk ci σ) tt te p.1.1 p.2).bind fun q => mkL q.1 q.2
nonrec def Zte : TF := fun _ H => some (true, H)
def PTsf (X : Cx) (ifs : List Vq) (t : TF) : Prop := PTs X ifs (rdT X.K t)
section
variable {X : Cx} {scope : Ubi} {x : Str} {cn : List Str} {ci : List Nat}
theorem Zej : PTsf X [] Zte := by
 rintro pins s σ H Q I ⟨ι, σd, Hd, b, Hd', sr, hr, e, q⟩
 cases e
 exact Zzg pins s σ H Q I (q H ι Le.refl hr)
theorem Zuh {c : Vq} {t : TF} (h : PTf X c t) : PTsf X [c] t := Zxd h
theorem SRep.cap {K : Xa} {H : Hp} {ι : List Ve} {σ : L2.St} {σd : SD} {d : D} {v : V} (s : SRep K H ι σ σd) (r : Rep K H ι d v) : SRep K H ι (some v :: Zpz ci σ) (some d :: Zzk ci σd) := by
 refine ⟨by simp [Zpz, Zzk], fun i e h => ?_⟩
 cases i with
 | zero => simp at h; subst h; exact ⟨v, rfl, r⟩
 | succ j =>
  simp only [Wds, Zpz, Zzk, Waf] at h ⊢
  cases ej : ci[j]? with
  | none => rw [ej] at h; simp at h
  | some i =>
   rw [ej] at h
   simp only [Wcl, Waa.injEq] at h ⊢
   cases es : σd[i]? with
   | none => rw [es] at h; simp at h
   | some o =>
    rw [es] at h
    simp at h
    subst h
    obtain ⟨u, h1, h2⟩ := s.var i e es
    exact ⟨u, by rw [h1]; rfl, h2⟩
theorem Yau {K : Xa} {it : ItF} {tt : TF} {te : EF} {σ : L2.St} {H : Hp} {Q : VK} (h : rdE K (eLC it ci tt te) σ H Q) : tLC (rdI K it) ci (rdT K tt) (rdE K te) σ H Q := by
 obtain ⟨ι, σd, Hd, d, Hd', s, hr, e, q⟩ := h
 obtain ⟨⟨⟨xs, own⟩, H1⟩, e1, e⟩ := Zo e
 obtain ⟨⟨ds, H2⟩, e2, e⟩ := Zo e
 obtain ⟨hz, e⟩ := Zn1 e
 cases e
 dsimp only at e2 hz
 refine ⟨ι, σd, Hd, xs, own, H1, s, hr, e1, fun J H0 ι0 l0 h0 itr p hp => ?_⟩
 have s0 := s.mono l0
 refine ⟨fun i m ys H => m = xs.length - i ∧ i ≤ xs.length ∧ H p = some (.lst ys) ∧ ∃ ι Hd done rest, Le K H0 ι0 H ι ∧ p ∉ ι ∧ HRep K H ι Hd ∧ Vh (Rep K H ι) done ys ∧ Zeo own (Zzk ci σd) tt te (xs.drop i) Hd = some (rest, H2) ∧ ds = done ++ rest,
  ⟨xs.length, by simp, Wak _, upd_same, ι0, H1, [], ds, Le.fresh hp _, h0.fresh hp, h0.tup hp _, .nil, by simpa using e2, by simp⟩, ?_⟩
 rintro i m ys H5 ⟨rfl, hi, hpl, ι5, Hd5, done, rest, l5, np5, h5, pd5, e5, eds⟩
 refine ⟨hpl, ?_⟩
 by_cases hlt : i < xs.length
 ·have ed : xs.drop i = xs[i] :: xs.drop (i + 1) := Wbq hlt
  rw [ed, Zeo] at e5
  split at e5
  ·rename_i ok
   obtain ⟨⟨b6, H6⟩, e6, e5⟩ := Zo e5
   refine .inr ⟨itr.go i H5 ι5 Hd5 l5 h5 ok hlt, fun v H' y => ?_⟩
   obtain ⟨ι6, l6, h6, r6⟩ := itr.yld i H5 ι5 Hd5 xs[i] v H' l5 h5 ok (by simp [hlt]) y
   obtain ⟨hp6, np6⟩ := l6.frame p _ hpl np5
   have s6 := SRep.cap (ci := ci) (s0.mono (l5.trans l6)) r6
   refine ⟨ι6, _, Hd5, b6, H6, s6, h6, e6, fun H7 ι7 l7 h7 => ?_⟩
   obtain ⟨hp7, np7⟩ := l7.frame p _ hp6 np6
   have L7 := (l5.trans l6).trans l7
   cases b6 with
   | true =>
    rw [if_pos rfl]
    dsimp only at e5
    rw [if_pos rfl] at e5
    obtain ⟨⟨d8, H8⟩, e8, e5⟩ := Zo e5
    obtain ⟨⟨r9, H9⟩, e9, e5⟩ := Zm e5
    cases e5
    refine ⟨ι7, _, H6, d8, H8, s6.mono l7, h7, e8, fun v8 H8' ι8 l8 h8 rr8 => ?_⟩
    obtain ⟨hp8, np8⟩ := l8.frame p _ hp7 np7
    have ly : ys.length < sizeLine := by
     rw [← Prd.len pd5]
     rw [eds] at hz
     simp at hz
     omega
    have w8 : Lw K H8' ι8 (upd H8' p (.lst (ys ++ [v8]))) ι8 := Lw.side hp8 _
    refine ⟨hp8, ly, xs.length - (i + 1), by omega, rfl, hlt, upd_same, ι8, H8, done ++ [d8], r9, (L7.trans l8).side hp hp8 _, np8, h8.keep w8 (fun a ha => Zai fun z => by subst z; exact np8 ha), ?_, e9, by rw [eds]; simp⟩
    exact Prd.append (Prd.monoW w8 (Prd.mono ((l6.trans l7).trans l8) pd5)) (.cons (Rep.monoW w8 rr8) .nil)
   | false =>
    rw [if_neg (by simp)]
    dsimp only at e5
    rw [if_neg (by simp)] at e5
    exact ⟨xs.length - (i + 1), by omega, rfl, hlt, hp7, ι7, H6, done, rest, L7, np7, h7, Prd.mono (l6.trans l7) pd5, e5, eds⟩
  ·cases e5
 ·rw [Wcr (by omega), Zeo] at e5
  split at e5
  ·rename_i ok
   have e6 : (([] : List D), Hd5) = (rest, H2) := Waa.inj e5
   obtain ⟨rfl, rfl⟩ := Wba.inj e6
   refine .inl ⟨itr.stop i H5 ι5 _ l5 h5 ok (by omega), ?_⟩
   have w5 : Lw K H5 ι5 H5 (ι5 ++ [p]) := ⟨fun _ _ z => z, fun _ _ z => z, ⟨[p], rfl⟩, fun _ _ _ z => z⟩
   have L := l0.trans l5
   simp at eds
   subst eds
   refine q _ H5 (ι5 ++ [p]) ⟨L.toLw.trans w5, fun a o ha na => ?_⟩ (h5.add np5 ⟨ys, hpl, Prd.monoW w5 pd5⟩) (Za4.mpr ⟨p, rfl, by rw [← h5.len]; simp⟩)
   obtain ⟨q1, q2⟩ := L.frame a o ha na
   refine ⟨q1, ?_⟩
   have : a ≠ p := fun z => by
    subst z
    have := (l0.frame a o ha na).1
    rw [hp] at this; cases this
   simp [q2, this]
  ·cases e5
theorem Zfg {elt iter : Vq} {px pos : Pos} {ifs : List Vq} {it : ItF} {tt : TF} {te : EF} (hc : X.calm = true) (B : BlkOk X scope x cn ci) (hi : PIf X (.Name x px) iter it)
  (ht : ∀ cl C s H fp pn, PTsf (blk X scope (x :: cn) cl C s H fp pn) ifs tt) (he : ∀ cl C s H fp pn, PEf (blk X scope (x :: cn) cl C s H fp pn) elt te)
  (hs : ∀ x, foldedSetIterable iter X.env x = pure x := by rintro _; rfl) : PEf X (.ListComp elt [⟨.Name x px, iter, ifs, 0⟩] scope pos) (eLC it ci tt te) :=
 PEi (pe_lc (tt := rdT X.K tt) (te := rdE X.K te) hc B hi ht he hs) fun _ _ _ h => Yau h
theorem Zc2 {elt iter : Vq} {px py pos spos : Pos} {ifs : List Vq} {it : ItF} {tt : TF} {te : EF} {i : Nat} {y : Str} (hc : X.calm = true) (B : BlkOk X scope x cn ci) (hi : PIf X (.Name x px) iter it)
  (ht : ∀ cl C s H fp pn, PTsf (blk X scope (x :: cn) cl C s H fp pn) ifs tt) (he : ∀ cl C s H fp pn, PEf (blk X scope (x :: cn) cl C s H fp pn) elt te)
  (hN : X.N.Nodup) (hiN : X.N[i]? = some y) (hy : X.env.scope.names.lookup y = some .local)
  (hsw : swapsWith (.ListComp elt [⟨.Name x px, iter, ifs, 0⟩] scope pos) (some (.Name y py)) spos.line X.env = pure true := by rfl)
  (hs : ∀ x, foldedSetIterable iter X.env x = pure x := by rintro _; rfl) : PSf X (.Assign [.Name y py] (.ListComp elt [⟨.Name x px, iter, ifs, 0⟩] scope pos) spos) (Zax i (eLC it ci tt te)) := by
 refine PSi (Zun (tt := rdT X.K tt) (te := rdE X.K te) hc B hi ht he hN hiN hy hsw hs) fun E σ H zz => ?_
 obtain ⟨ι, σd, Hd, fl, σd', Hd', s, hr, e, q⟩ := zz
 obtain ⟨⟨x, H1⟩, e1, e⟩ := Zm e
 cases e
 exact Yau ⟨ι, σd, Hd, x, H1, s, hr, e1, fun v H' ι' l h r => q _ H' ι' l h ((s.mono l).set r i)⟩
end
theorem Zx7 : fillsNumberSlot (.type "tuple") "mul" = pure false :=
 PySem.fillsNumberSlot_seq (id := "tuple.__mul__") (r := some (.builtin "tuple.__rmul__")) Tap.lookup (by decide +kernel) F.slot_tuple_rmul.lookup (by decide +kernel)
theorem repT : seqRepeat? (.type "tuple") = pure (some (.builtin "tuple.__mul__")) := by
 unfold seqRepeat?
 rw [PySem.seqSlot_of (T := "tuple") (name := "__mul__") (id := "tuple.__mul__") Tap.lookup (by decide +kernel), PySem.seqSlot_of (T := "tuple") (name := "__rmul__") (id := "tuple.__rmul__") F.slot_tuple_rmul.lookup (by decide +kernel)]
 rfl
section
variable {dd : Option Ve} {sl : Array (Option Vb)}
theorem rmulT (a : Int) (t : Tok) (l : Ve) (items : Array Vb) (n : Nat) :
  Meets (Builtin.«int.__rmul__» ⟨[.int a t, .ref l], []⟩) (fun _ R s => s.heap.get? l = some { cls := .type "tuple", dict := dd, data := .seq items n, slots := sl } ∧ R (.ok (.ret Value.notImplemented)) s) :=
 .of_wp fun prog w A R s h => by obtain ⟨hp, g, d, tk, os⟩ := s; obtain ⟨hl, h⟩ := h; wp_walk; exact ⟨_, rfl, h⟩
theorem Zqm (l : Ve) (items : Array Vb) (n : Nat) (x : Int) (u : Tok) (h1 : (decide (x < -(2 ^ 63)) || decide (x ≥ 2 ^ 63)) = false) (h2 : (items.isEmpty || x == 1) = true) :
  Meets (Builtin.«tuple.__mul__» ⟨[.ref l, .int x u], []⟩) (fun _ R s => s.heap.get? l = some { cls := .type "tuple", dict := dd, data := .seq items n, slots := sl } ∧ R (.ok (.ret (.ref l))) s) :=
 .of_wp fun prog w A R s h => by
  obtain ⟨hp, g, d, tk, os⟩ := s; obtain ⟨hl, h⟩ := h
  have f1 := AutoSeq1.idx_int
  wp_walk
  simp only [h1, Wbb, if_false]
  wp_walk using Vm hl
  simp only [h2, if_true]
  wp_walk using Vm hl
  exact ⟨_, rfl, h⟩
theorem Zrl (l : Ve) (items : Array Vb) (n : Nat) (x : Int) (u : Tok) (h1 : (decide (x < -(2 ^ 63)) || decide (x ≥ 2 ^ 63)) = false) (h2 : (items.isEmpty || x == 1) = false) (h3 : (decide (x ≤ 0) || items.isEmpty) = true) :
  Meets (Builtin.«tuple.__mul__» ⟨[.ref l, .int x u], []⟩) (fun _ R s => s.heap.get? l = some { cls := .type "tuple", dict := dd, data := .seq items n, slots := sl } ∧ R (.ok (.ret (.ref s.heap.objs.size))) { s with heap := s.heap.push { cls := Tca "tuple", data := Data.seq #[] } }) :=
 .of_wp fun prog w A R s h => by
  obtain ⟨hp, g, d, tk, os⟩ := s; obtain ⟨hl, h⟩ := h
  have f1 := AutoSeq1.idx_int
  wp_walk
  simp only [h1, Wbb, if_false]
  wp_walk using Vm hl
  try simp only [h2, h3, Wbb, if_false, if_true]
  try (wp_walk using Vm hl)
  exact ⟨_, rfl, h⟩
theorem Ztk (l : Ve) (items : Array Vb) (n : Nat) (x : Int) (u : Tok) (h1 : (decide (x < -(2 ^ 63)) || decide (x ≥ 2 ^ 63)) = false) (h2 : (items.isEmpty || x == 1) = false) (h3 : (decide (x ≤ 0) || items.isEmpty) = false) (h4 : ¬ (items.size * x : Int) > (2 ^ 63 - 1) / 8) (h5 : Tbi (items.size * x) = false)
  (hs : (Wdo (fun x1 x2 => x1 ++ x2) #[] (Xg x.toNat items)).size ≤ sizeLine) :
  Meets (Builtin.«tuple.__mul__» ⟨[.ref l, .int x u], []⟩) (fun _ R s => s.heap.get? l = some { cls := .type "tuple", dict := dd, data := .seq items n, slots := sl } ∧ R (.ok (.ret (.ref s.heap.objs.size))) { s with heap := s.heap.push { cls := Tca "tuple", data := Data.seq (Wdo (fun x1 x2 => x1 ++ x2) #[] (Xg x.toNat items)) } }) :=
 .of_wp fun prog w A R s h => by
  obtain ⟨hp, g, d, tk, os⟩ := s; obtain ⟨hl, h⟩ := h
  have f1 := AutoSeq1.idx_int
  wp_walk
  simp only [h1, Wbb, if_false]
  wp_walk using Vm hl
  simp only [h2, h3, h5, Wbb, if_false, if_neg h4]
  wp_walk using Vm hl
  exact ⟨_, rfl, h⟩
end
theorem Zj3 (its : List Vb) (m : Nat) : Wdo (fun x1 x2 => x1 ++ x2) #[] (Xg m its.toArray) = (Xg m its).flatten.toArray := by
 have := Ziz its m []
 rw [Wcn] at this
 exact this
section
variable {prog : Vf} {w : Vk} {A : Vo} {E : Vb -> Vd -> Prop} {s : Vd}
theorem Zxi {l : Ve} {its : List Vb} {k : Int} {t : Tok} {Q : Vb -> Vd -> Prop} (p : Uce s.heap l its.toArray) (h1 : -(2 ^ 63) ≤ k) (h2 : k < 2 ^ 63) (hz : its.length * k.toNat ≤ sizeLine)
  (qs : (its = [] ∨ k = 1) → Q (.ref l) s) (qn : its ≠ [] → k ≠ 1 → Q (.ref s.heap.objs.size) { s with heap := s.heap.push { cls := .type "tuple", data := .seq (Xg k.toNat its).flatten.toArray } }) :
  wpAny (model prog w) A (binaryOp .Mult (.ref l) (.int k t)) Q E s := by
 obtain ⟨o, e, hc, n, hd⟩ := p
 obtain ⟨c, dd, da, sl⟩ := o
 have hc' : c = .type "tuple" := hc
 have hd' : da = .seq its.toArray n := hd
 subst hc' hd'
 have b1 : (decide (k < -(2 ^ 63)) || decide (k ≥ 2 ^ 63)) = false := by simp; omega
 refine Uba (T := "tuple") (U := "int") (by decide) ⟨_, e, rfl⟩ (fun s' => Ubr s' k t) Zx7 F.fills_int_mul Tbg repT F.slot_int_index.lookup
  (Uat Tbg (Ubr s k t) F.entry_int_rmul (F.args_int_rmul_2 _ _) (rmulT k t l its.toArray n) ⟨e, rfl, ⟨_, e, rfl⟩, ?_⟩)
 by_cases hs : its = [] ∨ k = 1
 ·exact Uat Tap ⟨_, e, rfl⟩ Tbp (Tbl _ _) (Zqm l its.toArray n k t b1 (by rcases hs with h | h <;> simp [h])) ⟨e, qs hs⟩
 ·have hne : its ≠ [] := fun h => hs (.inl h)
  have hk : k ≠ 1 := fun h => hs (.inr h)
  have b2 : (its.toArray.isEmpty || k == 1) = false := by cases its <;> simp_all
  have new := qn hne hk
  by_cases h0 : k ≤ 0
  ·have z : k.toNat = 0 := by omega
   rw [z] at new
   exact Uat Tap ⟨_, e, rfl⟩ Tbp (Tbl _ _) (Zrl l its.toArray n k t b1 b2 (by simp [h0])) ⟨e, new⟩
  ·have sz : sizeLine = 16777216 := Tam
   have hm : (its.toArray.size : Int) * k ≤ 16777216 := by
    have e1 : k = (k.toNat : Int) := by omega
    rw [Xi, e1, ← Int.natCast_mul]
    omega
   have b3 : (decide (k ≤ 0) || its.toArray.isEmpty) = false := by cases its <;> simp_all
   refine Uat Tap ⟨_, e, rfl⟩ Tbp (Tbl _ _) (Ztk l its.toArray n k t b1 b2 b3 (by omega) (by simp only [Tbi, decide_eq_false_iff_not, sz]; omega) ?_) ⟨e, ?_⟩
   ·rw [Zj3, Xi, Zm2, Web]; exact hz
   ·rw [Zj3]; exact new
end
variable {X : Cx}
nonrec def rRepT (K : Xa) : R2 := fun x y H Q => ∃ l k xs, x = .ref l ∧ y = .int k ∧ SqT K H l xs ∧ -(2 ^ 63) ≤ k ∧ k < 2 ^ 63 ∧ xs.length * k.toNat ≤ sizeLine ∧ ((xs = [] ∨ k = 1) -> Q (.ref l) H) ∧
 (xs ≠ [] -> k ≠ 1 -> ∀ p, H p = none -> Q (.ref p) (upd H p (.tup (Xg k.toNat xs).flatten)))
theorem Zx6 : OpR X (binaryOp .Mult) (rRepT X.K) := by
 intro pins s σ H x y v u Q I rx ry h
 obtain ⟨l, k, xs, rfl, rfl, ha, h1, h2, hz, q1, q2⟩ := h
 cases rx
 obtain ⟨t, rfl⟩ := ry
 obtain ⟨its, r1, p1, _⟩ := I.tuple ha
 refine Zxi p1 h1 h2 (by rw [← r1.length]; exact hz) (fun z => ⟨.ref l, H, I, rfl, q1 (z.imp r1.nil_iff.mp id)⟩) (fun z zk => ?_)
 refine ⟨.ref s.heap.objs.size, _, I.laid (t' := s.toks) (o := .tup (Xg k.toNat xs).flatten) (fun b ob q => Xb _ q) (Xc _) ?_, rfl, q2 (fun w => z (r1.nil_iff.mpr w)) zk _ (I.hok.fresh (Xc _))⟩
 exact ⟨by rw [Zm2, Web]; exact hz, _, r1.rep k.toNat, Zjd.new _ _⟩
section
variable {X : Cx}
nonrec def iiD (C : Int -> Int -> Prop) [∀ i j, Decidable (C i j)] (g : Int -> Int -> D) : F2 := fun x y H => match x, y with
 | .int i, .int j => if C i j then some (g i j, H) else none
 | _, _ => none
theorem Zon {f : Vb -> Vb -> Sem Vb} {C : Int -> Int -> Prop} [∀ i j, Decidable (C i j)] {g : Int -> Int -> Int} (h : OpR X f (rI C fun i j => .int (g i j))) : OpF X f (iiD C fun i j => .int (g i j)) := by
 refine OpRi h fun x y H Q zz => ?_
 obtain ⟨ι, dx, dy, Hd, d, Hd', hr, r1, r2, e, q⟩ := zz
 cases dx <;> cases dy <;> simp only [iiD] at e <;> try cases e
 rename_i i j
 split at e
 ·rename_i hc
  cases e
  simp at r1 r2
  exact ⟨i, j, r1, r2, hc, q _ H ι Le.refl hr (by simp)⟩
 ·cases e
def CT (_ _ : Int) : Prop := True
instance : ∀ i j, Decidable (CT i j) := fun _ _ => instDecidableTrue
theorem Ycb {f : Vb -> Vb -> Sem Vb} {g : Int -> Int -> V} (h : OpR X f (rI0 g)) : OpR X f (rI CT g) := OpRi h fun x y H Q ⟨i, j, e1, e2, _, q⟩ => ⟨i, j, e1, e2, q⟩
theorem Zob {f : Vb -> Vb -> Sem Vb} {g : Int -> Int -> Bool} (h : OpR X f (rI0 fun i j => .bl (g i j))) : OpF X f (iiD CT fun i j => .bl (g i j)) := by
 refine OpRi h fun x y H Q zz => ?_
 obtain ⟨ι, dx, dy, Hd, d, Hd', hr, r1, r2, e, q⟩ := zz
 cases dx <;> cases dy <;> simp only [iiD] at e <;> try cases e
 rename_i i j
 simp at r1 r2
 exact ⟨i, j, r1, r2, q _ H ι Le.refl hr (by simp)⟩
instance (i j : Int) : Decidable (Yaj i j) := by unfold Yaj; exact inferInstance
instance (i j : Int) : Decidable (Zv9 i j) := by unfold Zv9; exact inferInstance
instance (i j : Int) : Decidable (Yar i j) := by unfold Yar; exact inferInstance
def Yad (_ j : Int) : Prop := 0 < j
instance (i j : Int) : Decidable (Yad i j) := by unfold Yad; exact inferInstance
nonrec def Zi5 : F2 := iiD CT fun i j => .int (i - j)
nonrec def Zkw : F2 := iiD Yaj fun i j => .int (i / j)
nonrec def Zb4 : F2 := iiD Yad fun i j => .int (i % j)
nonrec def Zwj : F2 := iiD Yar fun i j => .int (i ^ j.toNat)
nonrec def ltD : F2 := iiD CT fun i j => .bl (decide (i < j))
nonrec def leD : F2 := iiD CT fun i j => .bl (decide (i ≤ j))
nonrec def gtD : F2 := iiD CT fun i j => .bl (decide (j < i))
nonrec def geD : F2 := iiD CT fun i j => .bl (decide (j ≤ i))
theorem Zds : OpF X (binaryOp .Sub) Zi5 := Zon (Ycb Ybm)
theorem Ze9 : OpF X (binaryOp .FloorDiv) Zkw := Zon Zx9
theorem Zdt : OpF X (binaryOp .Mod) Zb4 := Zon (C := Yad) Ycn
theorem Zik : OpF X (binaryOp .Pow) Zwj := Zon Zzu
theorem Zjy : OpF X (compareOp .Lt) ltD := Zob op_lt
theorem Zjw : OpF X (compareOp .LtE) leD := Zob op_le
theorem Zh4 : OpF X (compareOp .Gt) gtD := Zob op_gt
theorem Ybg : OpF X (compareOp .GtE) geD := Zob op_ge
nonrec def Zme : D -> HD -> Option (D × HD) := fun x H => match x with
 | .int i => some (.int (-i), H)
 | _ => none
theorem Zfp : UnF X (unaryOp .USub) Zme := by
 rintro pins s σ H x v Q I rx ⟨ι, dx, Hd, d, Hd', hr, r1, e, q⟩
 cases dx <;> simp only [Zme] at e <;> try cases e
 simp at r1
 exact Yap pins s σ H x v Q I rx ⟨_, r1, q _ H ι Le.refl hr (by simp)⟩
theorem Zvh {prog : Vf} {w : Vk} {A : Vo} {E : Vb -> Vd -> Prop} {s : Vd} {t b : Ve} {ws : List Vb} {Q : Vb -> Vd -> Prop} (ht : Uce s.heap t #[]) (hb : Uce s.heap b ws.toArray)
  (h1 : Q (.ref b) s) : wpAny (model prog w) A (binaryOp .Add (.ref t) (.ref b)) Q E s := by
 obtain ⟨⟨cls, dd, data, sl⟩, ho, hc, n, hd⟩ := id ht
 obtain ⟨⟨cls2, dd2, data2, sl2⟩, ho2, hc2, n2, hd2⟩ := id hb
 simp only at hc hd hc2 hd2
 subst hc hd hc2 hd2
 exact Ucc ⟨_, ho, rfl⟩ ⟨_, ho2, rfl⟩ Ubg Uby Taw Tat (Taq _ _)
   (tuple_addW0 t b #[] ws.toArray n n2 dd dd2 sl sl2 (by simp)) ⟨ho, ho2, h1⟩
nonrec def Zbb : F2 := fun x y H => match x, y with
 | .int i, .int j => some (.int (i + j), H)
 | .str a, .str b => if a.length + b.length ≤ sizeLine then some (.str (a ++ b), H) else none
 | .tup a, .tup b => mkT (a ++ b) H
 | .ref n, .ref m => match H[n]?, H[m]? with
  | some (.lst a), some (.lst b) => mkL (a ++ b) H
  | _, _ => none
 | _, _ => none
theorem Zat : OpF X (binaryOp .Add) Zbb := by
 rintro pins s σ H x y v u Q I rx ry ⟨ι, dx, dy, Hd, d, Hd', hr, r1, r2, e, q⟩
 cases dx <;> cases dy <;> simp only [Zbb] at e <;> try cases e
 ·simp at r1 r2
  exact Yb9 pins s σ H x y v u Q I rx ry ⟨_, _, r1, r2, q _ H ι Le.refl hr (by simp)⟩
 ·simp at r1 r2
  split at e
  ·rename_i hl
   cases e
   exact Zpw pins s σ H x y v u Q I rx ry ⟨_, _, r1, r2, hl, q _ H ι Le.refl hr (by simp)⟩
  ·cases e
 ·rename_i as bs
  obtain ⟨a, vs, rfl, h1, p1⟩ := Zbj.mp r1
  obtain ⟨b, ws, rfl, h2, p2⟩ := Zbj.mp r2
  cases p1 with
  | nil =>
   obtain ⟨hl, e⟩ := Zhs e
   simp only [Wcn, Wba.injEq] at e
   obtain ⟨rfl, rfl⟩ := e
   cases rx
   cases ry
   obtain ⟨its, q1, t1, _⟩ := I.tuple h1
   obtain ⟨its2, q2, t2, _⟩ := I.tuple h2
   cases q1
   exact Zvh t1 t2 ⟨.ref b, H, I, rfl, q _ H ι Le.refl hr r2⟩
  | cons p p' =>
   have P := Prd.append (.cons p p') p2
   obtain ⟨hl, e'⟩ := Zhs e
   cases p2 with
   | nil =>
    simp only [Xu, Wba.injEq] at e'
    obtain ⟨rfl, rfl⟩ := e'
    refine Zrq pins s σ H _ _ v u Q I rx ry ⟨a, b, _, _, rfl, rfl, h1, h2, by simp, ?_, fun _ => q _ H ι Le.refl hr r1, fun z => absurd rfl z⟩
    have := Prd.len P
    simp only [Xu] at this hl
    simp only [Wed]
    omega
   | cons p3 p4 =>
    obtain ⟨k1, k2⟩ := Zgw hr P e q
    refine Zrq pins s σ H _ _ v u Q I rx ry ⟨a, b, _, _, rfl, rfl, h1, h2, by simp, ?_, fun z => absurd z (by simp), fun _ => k2⟩
    rw [← Wap]; exact k1
 ·rename_i n m
  obtain ⟨a, rfl, ha⟩ := Za4.mp r1
  obtain ⟨b, rfl, hb⟩ := Za4.mp r2
  split at e
  ·rename_i as bs e1 e2
   obtain ⟨vs, h1, p1⟩ := hr.obj n a _ ha e1
   obtain ⟨ws, h2, p2⟩ := hr.obj m b _ hb e2
   obtain ⟨k1, k2⟩ := Zeq hr (Prd.append p1 p2) e q
   exact Yca pins s σ H _ _ v u Q I rx ry ⟨a, b, vs, ws, rfl, rfl, h1, h2, by rw [← Wap]; exact k1, k2⟩
  ·cases e
nonrec def Zmi : F2 := fun x y H => match x, y with
 | .int i, .int j => if Zv9 i j then some (.int (i * j), H) else none
 | .ref n, .int k => match H[n]? with
  | some (.lst a) => if -(2 ^ 63) ≤ k ∧ k < 2 ^ 63 ∧ a.length * k.toNat ≤ sizeLine then mkL (Xg k.toNat a).flatten H else none
  | _ => none
 | .tup a, .int k => if -(2 ^ 63) ≤ k ∧ k < 2 ^ 63 ∧ a.length * k.toNat ≤ sizeLine then mkT (Xg k.toNat a).flatten H else none
 | _, _ => none
theorem Zfw : OpF X (binaryOp .Mult) Zmi := by
 rintro pins s σ H x y v u Q I rx ry ⟨ι, dx, dy, Hd, d, Hd', hr, r1, r2, e, q⟩
 cases dx <;> cases dy <;> simp only [Zmi] at e <;> try cases e
 ·simp at r1 r2
  split at e
  ·rename_i hc
   cases e
   exact Yb6 pins s σ H x y v u Q I rx ry ⟨_, _, r1, r2, hc, q _ H ι Le.refl hr (by simp)⟩
  ·cases e
 ·rename_i as k
  obtain ⟨a, vs, rfl, h1, p1⟩ := Zbj.mp r1
  simp at r2
  split at e
  ·rename_i hc
   have hlen := Prd.len p1
   obtain ⟨k1, k2⟩ := Zgw hr (Prd.rep p1 k.toNat) e q
   refine Zx6 pins s σ H _ _ v u Q I rx ry ⟨a, k, vs, rfl, r2, h1, hc.1, hc.2.1, by rw [← hlen]; exact hc.2.2, fun z => ?_, fun _ _ => k2⟩
   obtain ⟨_, e'⟩ := Zhs e
   have hf : (Xg k.toNat as).flatten = as := by
    rcases z with z | z
    ·have : as = [] := List.eq_nil_of_length_eq_zero (by rw [hlen, z]; rfl)
     subst this
     simp
    ·subst z
     simp
   rw [hf] at e'
   cases e'
   exact q _ H ι Le.refl hr r1
  ·cases e
 ·rename_i n k
  obtain ⟨a, rfl, ha⟩ := Za4.mp r1
  simp at r2
  split at e
  ·rename_i as e1
   obtain ⟨vs, h1, p1⟩ := hr.obj n a _ ha e1
   split at e
   ·rename_i hc
    obtain ⟨k1, k2⟩ := Zeq hr (Prd.rep p1 _) e q
    exact Zzo pins s σ H _ _ v u Q I rx ry ⟨a, k, vs, rfl, r2, h1, hc.1, hc.2.1, by rw [← Prd.len p1]; exact hc.2.2, k2⟩
   ·cases e
  ·cases e
nonrec def Zmh : D -> HD -> Option (List D)
 | .tup xs, _ => some xs
 | .fl xs, _ => some xs
 | .ref n, H => match H[n]? with
  | some (.lst xs) => some xs
  | _ => none
 | _, _ => none
theorem Zlr {K : Xa} {H : Hp} {ι : List Ve} {Hd : HD} {d : D} {xs : List D} {v : V} (hr : HRep K H ι Hd) (r : Rep K H ι d v) (e : Zmh d Hd = some xs) : ∃ p vs, v = .ref p ∧ (SqL K H p vs ∨ SqT K H p vs) ∧ Vh (Rep K H ι) xs vs := by
 cases d with
 | tup ys => cases e; obtain ⟨a, vs, rfl, h, p⟩ := Zbj.mp r; exact ⟨a, vs, rfl, .inr h, p⟩
 | fl ys => cases e; obtain ⟨a, vs, rfl, h, p⟩ := Zf6.mp r; exact ⟨a, vs, rfl, .inl h.sq, p⟩
 | ref n =>
  obtain ⟨a, rfl, ha⟩ := Za4.mp r
  simp only [Zmh] at e
  split at e
  ·rename_i ys e1
   cases e
   obtain ⟨vs, h1, p1⟩ := hr.obj n a _ ha e1
   exact ⟨a, vs, rfl, .inl (SqL.of h1), p1⟩
  ·cases e
 | _ => simp [Zmh] at e
theorem Zxs {α β : Type} {F : α -> β -> Prop} {xs : List α} {us : List β} {i : Int} {x : α} (r : Vh F xs us) (h : atI xs i = some x) : ∃ u, atI us i = some u ∧ F x u := by
 unfold atI at h ⊢
 rw [← Prd.len r]
 obtain ⟨j, h1, h2⟩ := Zo h
 obtain ⟨u, h3, h4⟩ := Prd.get r h2
 exact ⟨u, by rw [h1]; exact h3, h4⟩
nonrec def ixD : F2 := fun x y H => match y with
 | .int i => (Zmh x H).bind fun xs => (atI xs i).map fun d => (d, H)
 | _ => none
theorem ixf : IxF X ixD := by
 rintro va sl pins s σ H x y v u Q I rx ry ⟨ι, dx, dy, Hd, d, Hd', hr, r1, r2, e, q⟩ hs
 cases dy <;> simp only [ixD] at e <;> try cases e
 rename_i i
 simp at r2
 obtain ⟨xs, e1, e⟩ := Zo e
 obtain ⟨d', e2, e⟩ := Zm e
 obtain ⟨rfl, rfl⟩ := Wba.inj e
 obtain ⟨p, vs, rfl, h, P⟩ := Zlr hr r1 e1
 obtain ⟨z, hz, rz⟩ := Zxs P e2
 rcases h with h | h
 ·exact Zyc va sl pins s σ H _ _ v u Q I rx ry ⟨p, vs, i, z, rfl, r2, h, hz, q _ H ι Le.refl hr rz⟩ hs
 ·exact Yb8 va sl pins s σ H _ _ v u Q I rx ry ⟨p, vs, i, z, rfl, r2, h, hz, q _ H ι Le.refl hr rz⟩ hs
nonrec def Zil (xs : List D) (lo hi : Option Int) : List D := (xs.drop (HT.sIx xs.length 0 lo)).take (HT.sIx xs.length xs.length hi - HT.sIx xs.length 0 lo)
theorem Zkx {K : Xa} {H : Hp} {ι : List Ve} {xs : List D} {vs : List V} (P : Vh (Rep K H ι) xs vs) (lo hi : Option Int) : Vh (Rep K H ι) (Zil xs lo hi) (Zvp vs lo hi) := by
 unfold Zil Zvp
 rw [← Prd.len P]
 exact Prd.take _ (Prd.drop _ P)
nonrec abbrev OF := SD -> HD -> Option (Option Int × HD)
nonrec def rdO (K : Xa) (f : OF) : TO := fun σ H Q => ∃ ι σd Hd o Hd', SRep K H ι σ σd ∧ HRep K H ι Hd ∧ f σd Hd = some (o, Hd') ∧ ∀ H' ι', Le K H ι H' ι' -> HRep K H' ι' Hd' -> Q o H'
def POf (X : Cx) (e : Option Vq) (f : OF) : Prop := PO X e (rdO X.K f)
nonrec def Zb0 : OF := fun _ H => some (none, H)
nonrec def Zbh (f : EF) : OF := fun σ H => (f σ H).bind fun p => match p.1 with
 | .int i => some (some i, p.2)
 | _ => none
theorem Zaz : POf X none Zb0 := by
 rintro pins s σ H Q I ⟨ι, σd, Hd, o, Hd', sr, hr, e, q⟩
 cases e
 exact Zwz pins s σ H Q I (q H ι Le.refl hr)
theorem Zcu {e : Vq} {f : EF} (h : PEf X e f) : POf X (some e) (Zbh f) := by
 rintro pins s σ H Q I ⟨ι, σd, Hd, o, Hd', sr, hr, e, q⟩
 obtain ⟨⟨d, H1⟩, e1, e⟩ := Zo e
 cases d <;> try cases e
 rename_i i
 exact Zyb h pins s σ H Q I ⟨ι, σd, Hd, _, _, sr, hr, e1, fun v H' ι' l h r => ⟨i, by simpa using r, q H' ι' l h⟩⟩
nonrec def slD (x : D) (lo hi : Option Int) (H : HD) : Option (D × HD) := match x with
 | .tup xs => some (.tup (Zil xs lo hi), H)
 | .fl xs => some (.ref H.length, H ++ [.lst (Zil xs lo hi)])
 | .ref n => match H[n]? with
  | some (.lst xs) => some (.ref H.length, H ++ [.lst (Zil xs lo hi)])
  | _ => none
 | _ => none
theorem Zfm {prog : Vf} {w : Vk} {A : Vo} {E : Vb -> Vd -> Prop} {s : Vd} {t sl : Ve} {items : Array Vb} {vl vu : Vb} {lo hi : Option Int} {Q : Vb -> Vd -> Prop} (ht : Uce s.heap t items) (hs : s.heap.IsSliceOf sl vl vu .none) (pl : Ubm vl lo) (pu : Ubm vu hi)
  (hw : HT.sIx items.size 0 lo = 0 ∧ HT.sIx items.size items.size hi = items.size) (h : Q (.ref t) s) : wpAny (model prog w) A (getItem (.ref t) (.ref sl)) Q E s := by
 obtain ⟨os, hos, hcs, hds⟩ := id hs
 have hTs : s.TypeIs (.ref sl) "slice" := ⟨os, hos, hcs⟩
 obtain ⟨ot, hot, hct, nt, hdt⟩ := id ht
 unfold getItem
 try with_reducible refine Vr ?_
 first | refine Va (Vc ?_) | skip
 refine Va (Ube ht.typeIs (by decide) ?_)
 refine Va (Vg (name := Ub "__getitem__") ht.typeIs Uc
  (Vl Uc ht.typeIs entry_tuple_getitem ?_ (Uaw _ _)))
 show wpAny _ _ (Tan (.ref t) >>= _) _ _ s
 refine Va (Ubz ht ?_)
 refine Va (Uay hTs ?_)
 rw [if_pos (by decide)]
 refine Va (HT.sliceApplied_gen hs pl pu ?_)
 show wpAny _ _ (if (((HT.sIx items.size 0 lo : Nat) : Int) == 0 && (1 : Int) == 1 && (HT.sIx items.size items.size hi - HT.sIx items.size 0 lo) == items.size) = true then _ else _) _ _ s
 rw [if_pos (by rw [hw.1, hw.2]; simp)]
 show wpAny _ _ (Tbj (Ud t) >>= _) _ _ s
 unfold Tbj
 refine Va (Va (Uay ht.typeIs (Vc ?_)))
 rw [if_pos (by decide)]
 exact Va (Uca (Vc ⟨_, rfl, Vc h⟩))
theorem Zpa {xs : List D} {lo hi : Option Int} (h : HT.sIx xs.length 0 lo = 0 ∧ HT.sIx xs.length xs.length hi = xs.length) : Zil xs lo hi = xs := by
 unfold Zil
 rw [h.1, h.2]; simp
nonrec def rdSl (K : Xa) : V -> Option Int -> Option Int -> Hp -> VK -> Prop := fun x lo hi H Q => ∃ ι dx Hd d Hd', HRep K H ι Hd ∧ Rep K H ι dx x ∧ slD dx lo hi Hd = some (d, Hd') ∧ QE K H ι d Hd' Q
theorem slf : SlR X (rdSl X.K) := by
 rintro pins s σ H x v vl vu lo hi sl Q I rx hs pl pu ⟨ι, dx, Hd, d, Hd', hr, r, e, q⟩
 have lists : ∀ {a : Ve} {xs : List D} {vs : List V}, x = .ref a -> SqL X.K H a vs -> Vh (Rep X.K H ι) xs vs -> (D.ref Hd.length, Hd ++ [DO.lst (Zil xs lo hi)]) = (d, Hd') →
   ∃ T id, typeLookup (.type T) "__getitem__" = pure (some (.builtin id)) ∧ s.TypeIs v T ∧ wpAny (model X.prog X.w) X.A (getItem v (.ref sl)) (EP X pins σ Q) X.xe s := fun {a xs vs} ex h P e => by
  obtain ⟨_, _, _, hz⟩ := I.list h
  have hz2 : (Zil xs lo hi).length ≤ sizeLine := by
   rw [Prd.len (Zkx P lo hi)]
   exact Xp (Zel vs lo hi) hz
  obtain ⟨k1, k2⟩ := Zeq hr (Zkx P lo hi) (show mkL (Zil xs lo hi) Hd = some (d, Hd') by unfold mkL; rw [if_pos hz2, e]) q
  exact Zw4 pins s σ H x v vl vu lo hi sl Q I rx hs pl pu ⟨a, vs, ex, h, k2⟩
 cases dx with
 | tup xs =>
  obtain ⟨a, vs, rfl, h, P⟩ := Zbj.mp r
  simp only [slD, Waa.injEq] at e
  obtain ⟨its, rv, ht, hz⟩ := I.tuple h
  have hlen : its.toArray.size = vs.length := by rw [Xi]; exact rv.length.symm
  by_cases hw : HT.sIx vs.length 0 lo = 0 ∧ HT.sIx vs.length vs.length hi = vs.length
  ·cases rx
   refine ⟨"tuple", _, Uc.lookup, ht.typeIs, Zfm ht hs pl pu (by rw [hlen]; exact hw) ?_⟩
   rw [Zpa (by rw [Prd.len P]; exact hw)] at e
   obtain ⟨rfl, rfl⟩ := Wba.inj e
   exact ⟨.ref a, H, I, rfl, q _ H ι Le.refl hr r⟩
  ·have hz2 : (Zil xs lo hi).length ≤ sizeLine := by
    rw [Prd.len (Zkx P lo hi)]
    exact Xp (Zel vs lo hi) hz
   obtain ⟨k1, k2⟩ := Zgw hr (Zkx P lo hi) (show mkT (Zil xs lo hi) Hd = some (d, Hd') by unfold mkT; rw [if_pos hz2, e]) q
   exact Ybx pins s σ H _ v vl vu lo hi sl Q I rx hs pl pu ⟨a, vs, rfl, h, hw, k2⟩
 | fl xs =>
  obtain ⟨a, vs, rfl, h, P⟩ := Zf6.mp r
  simp only [slD, Waa.injEq] at e
  exact lists rfl h.sq P e
 | ref n =>
  obtain ⟨a, rfl, ha⟩ := Za4.mp r
  simp only [slD] at e
  split at e
  ·rename_i xs e1
   obtain ⟨vs, h1, P⟩ := hr.obj n a _ ha e1
   exact lists rfl (SqL.of h1) P (Waa.inj e)
  ·cases e
 | _ => simp [slD] at e
nonrec def eSl (fe : EF) (fl fh : OF) : EF := fun σ H => (fe σ H).bind fun p => (fl σ p.2).bind fun l => (fh σ l.2).bind fun h => slD p.1 l.1 h.1 h.2
theorem Zap {e : Vq} {lo hi : Option Vq} {fe : EF} {fl fh : OF} {pos p2 : Pos} (he : PEf X e fe) (hl : POf X lo fl) (hu : POf X hi fh) : PEf X (.Subscript e (.Slice lo hi none p2) pos) (eSl fe fl fh) := by
 refine PEi (Zvj slf he hl hu) fun σ H Q zz => ?_
 obtain ⟨ι, σd, Hd, d, Hd', s, hr, e, q⟩ := zz
 obtain ⟨⟨x, H1⟩, e1, e⟩ := Zo e
 obtain ⟨⟨y, H2⟩, e2, e⟩ := Zo e
 obtain ⟨⟨z, H3⟩, e3, e⟩ := Zo e
 exact ⟨ι, σd, Hd, x, H1, s, hr, e1, fun v1 H1' ι1 l1 h1 r1 => ⟨ι1, σd, H1, y, H2, s.mono l1, h1, e2, fun H2' ι2 l2 h2 => ⟨ι2, σd, H2, z, H3, s.mono (l1.trans l2), h2, e3, fun H3' ι3 l3 h3 =>
  ⟨ι3, x, H3, d, Hd', h3, r1.mono (l2.trans l3), e, fun v H' ι' l h r => q v H' ι' (((l1.trans l2).trans l3).trans l) h r⟩⟩⟩⟩
nonrec def Zb8 : FF := fun ds H => match ds with
 | [.str x] => if x.length ≤ sizeLine then some (.int x.length, H) else none
 | [d] => (Zmh d H).map fun xs => (.int xs.length, H)
 | _ => none
theorem Zl0 {K : Xa} {H : Hp} {ι : List Ve} {d : D} {vs : List V} (P : Vh (Rep K H ι) [d] vs) : ∃ v, vs = [v] ∧ Rep K H ι d v := by
 cases P with
 | cons r t => cases t; exact ⟨_, rfl, r⟩
theorem prd2 {K : Xa} {H : Hp} {ι : List Ve} {d d' : D} {vs : List V} (P : Vh (Rep K H ι) [d, d'] vs) : ∃ v v', vs = [v, v'] ∧ Rep K H ι d v ∧ Rep K H ι d' v' := by
 cases P with
 | cons r t => obtain ⟨v, rfl, r'⟩ := Zl0 t; exact ⟨_, _, rfl, r, r'⟩
theorem Zsi : Zi0 X (.builtin "len") Zb8 := by
 rintro pins s σ H xs us Q I rv ⟨ι, ds, Hd, d, Hd', hr, P, e, q⟩
 unfold Zb8 at e
 split at e
 ·obtain ⟨v, rfl, r⟩ := Zl0 P
  simp at r
  subst r
  split at e
  ·rename_i hl
   cases e
   exact Zlm pins s σ H _ us Q I rv ⟨_, rfl, hl, q _ H ι Le.refl hr (by simp)⟩
  ·cases e
 ·obtain ⟨v, rfl, r⟩ := Zl0 P
  obtain ⟨ys, e1, e⟩ := Zm e
  obtain ⟨rfl, rfl⟩ := Wba.inj e
  obtain ⟨p, vs, rfl, h, P2⟩ := Zlr hr r e1
  exact Zl6 pins s σ H _ us Q I rv ⟨p, vs, rfl, h, q _ H ι Le.refl hr (by simp [Prd.len P2])⟩
 ·cases e
nonrec def Zpu : FF := fun ds H => match ds with
 | [.int i] => some (.int (if i < 0 then -i else i), H)
 | _ => none
theorem Zri : Zi0 X (.builtin "abs") Zpu := by
 rintro pins s σ H xs us Q I rv ⟨ι, ds, Hd, d, Hd', hr, P, e, q⟩
 unfold Zpu at e
 split at e
 ·obtain ⟨v, rfl, r⟩ := Zl0 P
  simp at r
  subst r
  cases e
  exact Zu6 pins s σ H _ us Q I rv ⟨_, rfl, q _ H ι Le.refl hr (by simp)⟩
 ·cases e
nonrec def Zzi : FF := fun ds H => match ds with
 | [.int i, .int j] => some (.int (if j > i then j else i), H)
 | _ => none
theorem Zqh (hc : X.calm = true) : Zi0 X (.builtin "max") Zzi := by
 rintro pins s σ H xs us Q I rv ⟨ι, ds, Hd, d, Hd', hr, P, e, q⟩
 unfold Zzi at e
 split at e
 ·obtain ⟨v, v', rfl, r, r'⟩ := prd2 P
  simp at r r'
  subst r r'
  cases e
  exact Zs4 hc pins s σ H _ us Q I rv ⟨_, _, rfl, q _ H ι Le.refl hr (by simp)⟩
 ·cases e
nonrec def Yb7 : FF := fun ds H => match ds with
 | [.int i] => some (.int i, H)
 | [.bl b] => some (.int (if b then 1 else 0), H)
 | _ => none
theorem Zmg : Zi0 X (.type "int") Yb7 := by
 rintro pins s σ H xs us Q I rv ⟨ι, ds, Hd, d, Hd', hr, P, e, q⟩
 unfold Yb7 at e
 split at e
 ·obtain ⟨v, rfl, r⟩ := Zl0 P
  simp at r
  subst r
  cases e
  exact Zlo pins s σ H _ us Q I rv (.inl ⟨_, rfl, q _ H ι Le.refl hr (by simp)⟩)
 ·obtain ⟨v, rfl, r⟩ := Zl0 P
  simp at r
  subst r
  cases e
  exact Zlo pins s σ H _ us Q I rv (.inr ⟨_, rfl, q _ H ι Le.refl hr (by simp)⟩)
 ·cases e
nonrec def Zho : FF := fun ds H => match ds with
 | [d] => (Zmh d H).map fun xs => (.ref H.length, H ++ [.lst xs])
 | _ => none
theorem Zny {pins : List (Ve × Obj)} {s : Vd} {σ : L2.St} {H : Hp} {p : Ve} {vs : List V} (I : Inv X pins σ H s) (h : SqL X.K H p vs ∨ SqT X.K H p vs) : vs.length ≤ sizeLine := by
 rcases h with h | h
 ·obtain ⟨_, _, _, z⟩ := I.list h; exact z
 ·obtain ⟨_, _, _, z⟩ := I.tuple h; exact z
theorem Zpd : Zi0 X (.type "list") Zho := by
 rintro pins s σ H xs us Q I rv ⟨ι, ds, Hd, d, Hd', hr, P, e, q⟩
 unfold Zho at e
 split at e
 ·obtain ⟨v, rfl, r⟩ := Zl0 P
  obtain ⟨ys, e1, e⟩ := Zm e
  obtain ⟨p, vs, rfl, h, P2⟩ := Zlr hr r e1
  obtain ⟨k1, k2⟩ := Zeq hr P2 (show mkL ys Hd = some (d, Hd') by unfold mkL; rw [if_pos (by rw [Prd.len P2]; exact Zny I h), e]) q
  exact Zmk pins s σ H _ us Q I rv ⟨p, vs, rfl, h, k2⟩
 ·cases e
nonrec def Zdc : FF := fun ds H => match ds with
 | [d] => (Zmh d H).map fun xs => (.tup xs, H)
 | _ => none
theorem Znb : Zi0 X (.type "tuple") Zdc := by
 rintro pins s σ H xs us Q I rv ⟨ι, ds, Hd, d, Hd', hr, P, e, q⟩
 unfold Zdc at e
 split at e
 ·rename_i d0
  obtain ⟨v, rfl, r⟩ := Zl0 P
  obtain ⟨ys, e1, e⟩ := Zm e
  obtain ⟨p, vs, rfl, h, P2⟩ := Zlr hr r e1
  obtain ⟨k1, k2⟩ := Zgw hr P2 (show mkT ys Hd = some (d, Hd') by unfold mkT; rw [if_pos (by rw [Prd.len P2]; exact Zny I h), e]) q
  refine Zkt pins s σ H _ us Q I rv ⟨p, vs, rfl, ?_⟩
  rcases h with h | h
  ·exact .inl ⟨h, k2⟩
  ·obtain ⟨rfl, rfl⟩ := Wba.inj e
   exact .inr ⟨h, q _ H ι Le.refl hr (Zbj.mpr ⟨p, vs, rfl, h, P2⟩)⟩
 ·cases e
nonrec def Zbd (x : D) (ds : List D) (H : HD) : Option (D × HD) := match x, ds with
 | .ref n, [d] => match H[n]? with
  | some (.lst xs) => if xs.length < sizeLine then some (.non, H.set n (.lst (xs ++ [d]))) else none
  | _ => none
 | _, _ => none
theorem Zcw : MtF X "list.append" Zbd := by
 rintro pins s σ H x xs v us Q I rx rv ⟨ι, dx, ds, Hd, d, Hd', hr, r1, P, e, q⟩
 unfold Zbd at e
 split at e
 ·rename_i n d1
  obtain ⟨a, rfl, ha⟩ := Za4.mp r1
  obtain ⟨z, rfl, rz⟩ := Zl0 P
  split at e
  ·rename_i ys e1
   split at e
   ·rename_i hl
    cases e
    obtain ⟨vs, h1, P1⟩ := hr.obj n a _ ha e1
    refine Zlt pins s σ H _ _ v us Q I rx rv ⟨a, vs, z, rfl, rfl, h1, by rw [← Prd.len P1]; exact hl, ?_⟩
    have L : Le X.K H ι (upd H a (.lst (vs ++ [z]))) ι := Le.upd (Wbi ha) h1 trivial _
    exact q _ _ ι L (hr.upd ha h1 trivial ⟨_, upd_same, Prd.append (Prd.mono L P1) (.cons (rz.mono L) .nil)⟩) (by simp)
   ·cases e
  ·cases e
 ·cases e
end
mutual
noncomputable def toP (H : HD) : Nat -> D -> Option Vs
 | _, .non => some .none
 | _, .bl b => some (.bool b)
 | _, .int i => some (.int i)
 | _, .str x => some (.str x)
 | _, .ty _ => none
 | n, .tup xs => (Zj1 H n xs).map .tuple
 | n, .fl xs => (Zj1 H n xs).map .list
 | 0, .ref _ => none
 | n + 1, .ref k => match H[k]? with
  | some (.lst xs) => (Zj1 H n xs).map .list
  | _ => none
termination_by n d => (n, sizeOf d)
noncomputable def Zj1 (H : HD) : Nat -> List D -> Option (List Vs)
 | _, [] => some []
 | n, d :: ds => (toP H n d).bind fun x => (Zj1 H n ds).map fun r => x :: r
termination_by n ds => (n, sizeOf ds)
end
section
variable {X : Cx} {pins : List (Ve × Obj)} {σ : L2.St} {H : Hp} {s : Vd} {ι : List Ve} {Hd : HD}
mutual
theorem Zci (I : Inv X pins σ H s) (hr : HRep X.K H ι Hd) : ∀ (n : Nat) (d : D) {x : Vs} {v : V} {u : Vb}, toP Hd n d = some x -> Rep X.K H ι d v -> Zca v u -> ∃ as, Reads s.heap u x as
 | n, .non, x, v, u, e, r, q => by
  rw [toP] at e; cases e; simp at r; subst r; cases q; exact ⟨_, .none⟩
 | n, .bl b, x, v, u, e, r, q => by
  rw [toP] at e; cases e; simp at r; subst r; cases q; exact ⟨_, .bool b⟩
 | n, .int i, x, v, u, e, r, q => by
  rw [toP] at e; cases e; simp at r; subst r; obtain ⟨t, rfl⟩ := q; exact ⟨_, .int i t⟩
 | n, .str z, x, v, u, e, r, q => by
  rw [toP] at e; cases e; simp at r; subst r; obtain ⟨t, rfl⟩ := q; exact ⟨_, .str z t⟩
 | n, .ty _, x, v, u, e, r, q => by rw [toP] at e; cases e
 | n, .tup xs, x, v, u, e, r, q => by
  rw [toP] at e
  obtain ⟨ps, e1, rfl⟩ := Zm e
  obtain ⟨a, vs, rfl, h, P⟩ := Zbj.mp r
  cases q
  obtain ⟨its, rv, ⟨o, ho, hc, m, hd⟩, hz⟩ := I.tuple h
  obtain ⟨as, ra⟩ := Zeb I hr n xs e1 P rv
  exact ⟨_, .tuple ho hc hd (by simpa using ra)⟩
 | n, .fl xs, x, v, u, e, r, q => by
  rw [toP] at e
  obtain ⟨ps, e1, rfl⟩ := Zm e
  obtain ⟨a, vs, rfl, h, P⟩ := Zf6.mp r
  cases q
  obtain ⟨its, rv, pl, hz⟩ := I.list h.sq
  obtain ⟨o, ho, hc, m, hd⟩ := pl.isList
  obtain ⟨as, ra⟩ := Zeb I hr n xs e1 P rv
  exact ⟨_, .list ho hc hd (by simpa using ra)⟩
 | 0, .ref k, x, v, u, e, r, q => by rw [toP] at e; cases e
 | n + 1, .ref k, x, v, u, e, r, q => by
  rw [toP] at e
  split at e
  ·rename_i xs eo
   obtain ⟨ps, e1, rfl⟩ := Zm e
   obtain ⟨a, rfl, ha⟩ := Za4.mp r
   cases q
   obtain ⟨vs, h1, P⟩ := hr.obj k a _ ha eo
   obtain ⟨its, rv, pl, hz⟩ := I.list (SqL.of h1)
   obtain ⟨o, ho, hc, m, hd⟩ := pl.isList
   obtain ⟨as, ra⟩ := Zeb I hr n xs e1 P rv
   exact ⟨_, .list ho hc hd (by simpa using ra)⟩
  ·cases e
termination_by n d => (n, sizeOf d)
theorem Zeb (I : Inv X pins σ H s) (hr : HRep X.K H ι Hd) : ∀ (n : Nat) (ds : List D) {xs : List Vs} {vs : List V} {us : List Vb}, Zj1 Hd n ds = some xs -> Vh (Rep X.K H ι) ds vs -> Zbp vs us -> ∃ as, ReadsAll s.heap us xs as
 | n, [], xs, vs, us, e, P, q => by
  rw [Zj1] at e; cases e; cases P; cases q; exact ⟨_, .nil⟩
 | n, d :: ds, xs, vs, us, e, P, q => by
  rw [Zj1] at e
  obtain ⟨x, e1, e⟩ := Zo e
  obtain ⟨r, e2, rfl⟩ := Zm e
  cases P with
  | cons p P =>
   cases q with
   | cons q Q =>
    obtain ⟨as, ra⟩ := Zci I hr n d e1 p q
    obtain ⟨bs, rb⟩ := Zeb I hr n ds e2 P Q
    exact ⟨_, .cons ra rb⟩
termination_by n ds => (n, sizeOf ds)
end
nonrec def okP (x : Vs) : Bool := x.canLay0 && decide (x.depth ≤ 30)
nonrec def dat (d : D) (H : HD) : Option Vs := (toP H 30 d).bind fun x => if okP x = true then some x else none
theorem Zdi {d : D} {x : Vs} (e : dat d Hd = some x) : toP Hd 30 d = some x ∧ x.canLay0 = true ∧ x.depth ≤ 30 := by
 obtain ⟨y, e1, e⟩ := Zo e
 split at e
 ·rename_i h
  cases e
  rw [okP, Xv, decide_eq_true_eq] at h
  exact ⟨e1, h⟩
 ·cases e
nonrec def Zti : D -> D -> Option (Str × Str)
 | .str a, .str b => some (a, b)
 | _, _ => none
theorem Zk3 {x y : D} {a b : Str} (h : Zti x y = some (a, b)) : x = .str a ∧ y = .str b := by
 unfold Zti at h
 split at h
 ·cases h; exact ⟨rfl, rfl⟩
 ·cases h
nonrec def eqD : F2 := fun x y H => match Zti x y with
 | some (a, b) => some (.bl (a == b), H)
 | none => (dat x H).bind fun p => (dat y H).map fun q => (.bl (Ua p q), H)
nonrec def neD : F2 := fun x y H => match Zti x y with
 | some (a, b) => some (.bl (a != b), H)
 | none => (dat x H).bind fun p => (dat y H).map fun q => (.bl (!Ua p q), H)
theorem Zg9 (hu : X.A.units + 64 < cLine) : OpF X (compareOp .Eq) eqD := by
 rintro pins s σ H x y v u Q I rx ry ⟨ι, dx, dy, Hd, d, Hd', hr, r1, r2, e, q⟩
 unfold eqD at e
 split at e
 ·rename_i a b es
  obtain ⟨rfl, rfl⟩ := Zk3 es
  obtain ⟨rfl, rfl⟩ := Wba.inj (Waa.inj e)
  simp at r1 r2
  subst r1 r2
  obtain ⟨t1, rfl⟩ := rx
  obtain ⟨t2, rfl⟩ := ry
  exact PyProof.Rows.eq_str ⟨.bl _, H, I, rfl, q _ H ι Le.refl hr (by simp)⟩
 ·obtain ⟨p, e1, e⟩ := Zo e
  obtain ⟨p2, e2, e⟩ := Zm e
  obtain ⟨rfl, rfl⟩ := Wba.inj e
  obtain ⟨t1, c1, d1⟩ := Zdi e1
  obtain ⟨t2, c2, d2⟩ := Zdi e2
  obtain ⟨as, ra⟩ := Zci I hr _ _ t1 r1 rx
  obtain ⟨bs, rb⟩ := Zci I hr _ _ t2 r2 ry
  exact SeqAt.compareEq_reads ra rb c1 c2 (by omega) ⟨.bl _, H, I, rfl, q _ H ι Le.refl hr (by simp)⟩
theorem Zdd (hu : X.A.units + 64 < cLine) : OpF X (compareOp .NotEq) neD := by
 rintro pins s σ H x y v u Q I rx ry ⟨ι, dx, dy, Hd, d, Hd', hr, r1, r2, e, q⟩
 unfold neD at e
 split at e
 ·rename_i a b es
  obtain ⟨rfl, rfl⟩ := Zk3 es
  obtain ⟨rfl, rfl⟩ := Wba.inj (Waa.inj e)
  simp at r1 r2
  subst r1 r2
  obtain ⟨t1, rfl⟩ := rx
  obtain ⟨t2, rfl⟩ := ry
  exact PyProof.Rows.ne_str ⟨.bl _, H, I, rfl, q _ H ι Le.refl hr (by simp)⟩
 ·obtain ⟨p, e1, e⟩ := Zo e
  obtain ⟨p2, e2, e⟩ := Zm e
  obtain ⟨rfl, rfl⟩ := Wba.inj e
  obtain ⟨t1, c1, d1⟩ := Zdi e1
  obtain ⟨t2, c2, d2⟩ := Zdi e2
  obtain ⟨as, ra⟩ := Zci I hr _ _ t1 r1 rx
  obtain ⟨bs, rb⟩ := Zci I hr _ _ t2 r2 ry
  exact SeqAt.compareNe_reads ra rb c1 c2 (by omega) ⟨.bl _, H, I, rfl, q _ H ι Le.refl hr (by simp)⟩
nonrec def Zn3 : Vs -> Option (List Vs)
 | .list xs => some xs
 | .tuple xs => some xs
 | _ => none
nonrec def inD : F2 := fun x y H => (dat x H).bind fun p => (dat y H).bind fun q => (Zn3 q).map fun xs => (.bl (xs.any fun z => Ua z p), H)
nonrec def niD : F2 := fun x y H => (dat x H).bind fun p => (dat y H).bind fun q => (Zn3 q).map fun xs => (.bl (!xs.any fun z => Ua z p), H)
theorem Zjv (hu : X.A.units + 64 < cLine) : OpF X (compareOp .In) inD := by
 rintro pins s σ H x y v u Q I rx ry ⟨ι, dx, dy, Hd, d, Hd', hr, r1, r2, e, q⟩
 obtain ⟨p, e1, e⟩ := Zo e
 obtain ⟨p2, e2, e⟩ := Zo e
 obtain ⟨xs, e3, e⟩ := Zm e
 obtain ⟨rfl, rfl⟩ := Wba.inj e
 obtain ⟨t1, c1, d1⟩ := Zdi e1
 obtain ⟨t2, c2, d2⟩ := Zdi e2
 obtain ⟨as, ra⟩ := Zci I hr _ _ t1 r1 rx
 obtain ⟨bs, rb⟩ := Zci I hr _ _ t2 r2 ry
 have fin : EP X pins σ Q (.bool (xs.any fun z => Ua z p)) s := ⟨.bl _, H, I, rfl, q _ H ι Le.refl hr (by simp)⟩
 cases p2 with
 | list ys =>
  cases e3
  simp only [Tac] at c2
  simp only [Tay] at d2
  exact SeqAt.in_list_reads rb ra c2 c1 (by omega) fin
 | tuple ys =>
  cases e3
  simp only [Tac] at c2
  simp only [Tay] at d2
  exact SeqAt.in_tuple_reads rb ra c2 c1 (by omega) fin
 | _ => simp [Zn3] at e3
theorem Zip (hu : X.A.units + 64 < cLine) : OpF X (compareOp .NotIn) niD := by
 rintro pins s σ H x y v u Q I rx ry ⟨ι, dx, dy, Hd, d, Hd', hr, r1, r2, e, q⟩
 obtain ⟨p, e1, e⟩ := Zo e
 obtain ⟨p2, e2, e⟩ := Zo e
 obtain ⟨xs, e3, e⟩ := Zm e
 obtain ⟨rfl, rfl⟩ := Wba.inj e
 obtain ⟨t1, c1, d1⟩ := Zdi e1
 obtain ⟨t2, c2, d2⟩ := Zdi e2
 obtain ⟨as, ra⟩ := Zci I hr _ _ t1 r1 rx
 obtain ⟨bs, rb⟩ := Zci I hr _ _ t2 r2 ry
 have fin : EP X pins σ Q (.bool (!xs.any fun z => Ua z p)) s := ⟨.bl _, H, I, rfl, q _ H ι Le.refl hr (by simp)⟩
 cases p2 with
 | list ys =>
  cases e3
  simp only [Tac] at c2
  simp only [Tay] at d2
  exact SeqAt.notIn_list_reads rb ra c2 c1 (by omega) fin
 | tuple ys =>
  cases e3
  simp only [Tac] at c2
  simp only [Tay] at d2
  exact SeqAt.notIn_tuple_reads rb ra c2 c1 (by omega) fin
 | _ => simp [Zn3] at e3
nonrec def isB (x y : D) : Option Bool := match y, x with
 | .non, .non => some true
 | .non, _ => some false
 | .bl b, .bl c => some (c == b)
 | .bl _, _ => some false
 | _, _ => none
nonrec def isD : F2 := fun x y H => (isB x y).map fun b => (.bl b, H)
nonrec def Ybn : F2 := fun x y H => (isB x y).map fun b => (.bl (!b), H)
theorem Zmy {M : Ucf} {A : Vo} {E : Vb -> Vd -> Prop} {s : Vd} {Q : Vb -> Vd -> Prop} {v : Vb} {b : Bool} (hv : ∀ i, v ≠ .builtin i) (h : Q (.bool (v == .bool b)) s) : wpAny M A (compareOp .Is v (.bool b)) Q E s := by
 cases v <;> first | exact Vc h | exact absurd rfl (hv _)
theorem Zi7 {M : Ucf} {A : Vo} {E : Vb -> Vd -> Prop} {s : Vd} {Q : Vb -> Vd -> Prop} {v : Vb} {b : Bool} (hv : ∀ i, v ≠ .builtin i) (h : Q (.bool (!(v == .bool b))) s) : wpAny M A (compareOp .IsNot v (.bool b)) Q E s := by
 cases v <;> first | exact Vc h | exact absurd rfl (hv _)
theorem Zqo {x : V} {v : Vb} (r : Zca x v) : ∀ i, v ≠ .builtin i := by
 intro i
 cases x with
 | non => cases r; intro z; cases z
 | bl _ => cases r; intro z; cases z
 | int _ => obtain ⟨t, rfl⟩ := r; intro z; cases z
 | str _ => obtain ⟨t, rfl⟩ := r; intro z; cases z
 | byt _ => obtain ⟨t, rfl⟩ := r; intro z; cases z
 | flt _ => obtain ⟨t, rfl⟩ := r; intro z; cases z
 | ref _ => cases r; intro z; cases z
 | ty _ => cases r; intro z; cases z
theorem Zvu {dx dy : D} {x y : V} {v u : Vb} {b : Bool} (r1 : Rep X.K H ι dx x) (r2 : Rep X.K H ι dy y) (rx : Zca x v) (ry : Zca y u) (e : isB dx dy = some b) :
  (u = .none ∧ b = (v == .none)) ∨ ∃ c, u = .bool c ∧ b = (v == .bool c) := by
 cases dy with
 | non =>
  simp at r2; subst r2; cases ry
  refine .inl ⟨rfl, ?_⟩
  cases dx with
  | non => simp at r1; subst r1; cases rx; cases e; rfl
  | bl _ => simp at r1; subst r1; cases rx; cases e; rfl
  | int _ => simp at r1; subst r1; obtain ⟨t, rfl⟩ := rx; cases e; rfl
  | str _ => simp at r1; subst r1; obtain ⟨t, rfl⟩ := rx; cases e; rfl
  | ty _ => rw [Rep] at r1; rcases r1 with ⟨_, rfl⟩ | ⟨_, a, rfl, _⟩ <;> (cases rx; cases e; rfl)
  | tup _ => obtain ⟨a, _, rfl, _⟩ := Zbj.mp r1; cases rx; cases e; rfl
  | fl _ => obtain ⟨a, _, rfl, _⟩ := Zf6.mp r1; cases rx; cases e; rfl
  | ref _ => obtain ⟨a, rfl, _⟩ := Za4.mp r1; cases rx; cases e; rfl
 | bl c =>
  simp at r2; subst r2; cases ry
  refine .inr ⟨c, rfl, ?_⟩
  cases dx with
  | non => simp at r1; subst r1; cases rx; cases e; rfl
  | bl z => simp at r1; subst r1; cases rx; cases e; cases z <;> cases c <;> rfl
  | int _ => simp at r1; subst r1; obtain ⟨t, rfl⟩ := rx; cases e; rfl
  | str _ => simp at r1; subst r1; obtain ⟨t, rfl⟩ := rx; cases e; rfl
  | ty _ => rw [Rep] at r1; rcases r1 with ⟨_, rfl⟩ | ⟨_, a, rfl, _⟩ <;> (cases rx; cases e; rfl)
  | tup _ => obtain ⟨a, _, rfl, _⟩ := Zbj.mp r1; cases rx; cases e; rfl
  | fl _ => obtain ⟨a, _, rfl, _⟩ := Zf6.mp r1; cases rx; cases e; rfl
  | ref _ => obtain ⟨a, rfl, _⟩ := Za4.mp r1; cases rx; cases e; rfl
 | _ => simp [isB] at e
theorem Zwv : OpF X (compareOp .Is) isD := by
 rintro pins s σ H x y v u Q I rx ry ⟨ι, dx, dy, Hd, d, Hd', hr, r1, r2, e, q⟩
 obtain ⟨b, e1, e⟩ := Zm e
 obtain ⟨rfl, rfl⟩ := Wba.inj e
 have fin : EP X pins σ Q (.bool b) s := ⟨.bl _, H, I, rfl, q _ H ι Le.refl hr (by simp)⟩
 rcases Zvu r1 r2 rx ry e1 with ⟨rfl, rfl⟩ | ⟨c, rfl, rfl⟩
 ·exact is_none_gen fin
 ·exact Zmy (Zqo rx) fin
theorem Zqy : OpF X (compareOp .IsNot) Ybn := by
 rintro pins s σ H x y v u Q I rx ry ⟨ι, dx, dy, Hd, d, Hd', hr, r1, r2, e, q⟩
 obtain ⟨b, e1, e⟩ := Zm e
 obtain ⟨rfl, rfl⟩ := Wba.inj e
 have fin : EP X pins σ Q (.bool (!b)) s := ⟨.bl _, H, I, rfl, q _ H ι Le.refl hr (by simp)⟩
 rcases Zvu r1 r2 rx ry e1 with ⟨rfl, rfl⟩ | ⟨c, rfl, rfl⟩
 ·exact isnot_none_gen fin
 ·exact Zi7 (Zqo rx) fin
nonrec def tyD : D -> HD -> Option String
 | .non, _ => some "NoneType"
 | .bl _, _ => some "bool"
 | .int _, _ => some "int"
 | .str _, _ => some "str"
 | .tup _, _ => some "tuple"
 | .fl _, _ => some "list"
 | .ref n, H => match H[n]? with
  | some (.lst _) => some "list"
  | _ => none
 | _, _ => none
nonrec def Zo0 (c : String) : Bool := c == "bool" || c == "int" || c == "str" || c == "tuple" || c == "list"
nonrec def Zhp : FF := fun ds H => match ds with
 | [x, .ty c] => if Zo0 c = true then (tyD x H).map fun t => (.bl (t == c || (t == "bool" && c == "int")), H) else none
 | _ => none
nonrec def tys : List String := ["NoneType", "bool", "int", "str", "tuple", "list"]
theorem Zzc {d : D} {t : String} (e : tyD d Hd = some t) : t ∈ tys := by
 cases d with
 | ref n =>
  simp only [tyD] at e
  split at e
  ·cases e; decide
  ·cases e
 | ty n => simp [tyD] at e
 | _ => simp only [tyD] at e; cases e; decide
theorem Ya3 (K : Xa) {t c : String} (ht : t ∈ tys) (hc : Zo0 c = true) : PySem.W.kitOne K (.type t) (.type c) = some (t == c || (t == "bool" && c == "int")) := by
 have hc' : c = "bool" ∨ c = "int" ∨ c = "str" ∨ c = "tuple" ∨ c = "list" := by
  simpa [Zo0, or_assoc] using hc
 simp only [tys, Xn, List.not_mem_nil, or_false] at ht
 rcases ht with rfl | rfl | rfl | rfl | rfl | rfl <;> rcases hc' with rfl | rfl | rfl | rfl | rfl <;> first | rfl | (with_unfolding_all rfl) | kernel_rfl
theorem Zr6 : Zi0 X (.builtin "isinstance") Zhp := by
 rintro pins s σ H xs us Q I rv ⟨ι, ds, Hd, d, Hd', hr, P, e, q⟩
 unfold Zhp at e
 split at e
 ·rename_i x c
  split at e
  ·rename_i hc
   obtain ⟨t, e1, e⟩ := Zm e
   obtain ⟨rfl, rfl⟩ := Wba.inj e
   obtain ⟨v, v', rfl, r, r'⟩ := prd2 P
   obtain ⟨u, u', rfl, ru, ru'⟩ := Zqt rv
   have r' := (Zwo (show Zwd c = true from hc)).mp r'
   subst r'
   cases ru'
   have k := Ya3 X.K (Zzc e1) hc
   have fin : ∀ tk, EP X pins σ Q (.bool (t == c || (t == "bool" && c == "int"))) { s with toks := tk } := fun tk => ⟨.bl _, H, I.tok tk, rfl, q _ H ι Le.refl hr (by simp)⟩
   cases x with
   | non => simp at r; subst r; cases ru; cases e1; exact Wbs PySem.W.kitx_none I.kIn True.intro k (fun z => nomatch z) fin
   | bl y => simp at r; subst r; cases ru; cases e1; exact Wbs PySem.W.kitx_bool I.kIn True.intro k (fun z => nomatch z) fin
   | int y => simp at r; subst r; obtain ⟨t, rfl⟩ := ru; cases e1; exact Wbs PySem.W.kitx_int I.kIn True.intro k (fun z => nomatch z) fin
   | str y => simp at r; subst r; obtain ⟨t, rfl⟩ := ru; cases e1; exact Wbs PySem.W.kitx_str I.kIn True.intro k (fun z => nomatch z) fin
   | ty _ => simp [tyD] at e1
   | tup ys =>
    obtain ⟨a, vs, rfl, h, _⟩ := Zbj.mp r
    cases ru; cases e1
    obtain ⟨its, _, ⟨o, ho, hcl, _⟩, _⟩ := I.tuple h
    exact Wbs PySem.W.kitx_tuple I.kIn ⟨o, ho, hcl⟩ k (fun z => nomatch z) fin
   | fl ys =>
    obtain ⟨a, vs, rfl, h, _⟩ := Zf6.mp r
    cases ru; cases e1
    obtain ⟨its, _, pl, _⟩ := I.list h.sq
    obtain ⟨o, ho, hcl, _⟩ := pl.isList
    exact Wbs Wez I.kIn ⟨o, ho, hcl⟩ k (fun z => nomatch z) fin
   | ref n =>
    obtain ⟨a, rfl, ha⟩ := Za4.mp r
    cases ru
    simp only [tyD] at e1
    split at e1
    ·rename_i ys eo
     cases e1
     obtain ⟨vs, h1, _⟩ := hr.obj n a _ ha eo
     obtain ⟨its, _, pl, _⟩ := I.list (SqL.of h1)
     obtain ⟨o, ho, hcl, _⟩ := pl.isList
     exact Wbs Wez I.kIn ⟨o, ho, hcl⟩ k (fun z => nomatch z) fin
    ·cases e1
  ·cases e
 ·cases e
nonrec def Zgu : List D -> Option (List Int)
 | [] => some []
 | .int i :: r => (Zgu r).map fun s => i :: s
 | _ => none
theorem Zl7 : ∀ {xs ys : List Int}, xs.Perm ys -> xs.Pairwise (· ≤ ·) -> ys.Pairwise (· ≤ ·) -> xs = ys
 | [], ys, p, _, _ => by simpa using p.symm
 | x :: xs, [], p, _, _ => by simpa using p
 | x :: xs, y :: ys, p, h1, h2 => by
  rw [Wdk] at h1 h2
  have a1 : y ∈ x :: xs := p.symm.subset (by simp)
  have a2 : x ∈ y :: ys := p.subset (by simp)
  have e : x = y := by
   rcases Xn.mp a1 with z | z
   ·exact z.symm
   ·rcases Xn.mp a2 with w | w
    ·exact w
    ·have := h1.1 y z
     have := h2.1 x w
     omega
  subst e
  rw [Zl7 (List.Perm.cons_inv p) h1.2 h2.2]
theorem Zk4 {K : Xa} : ∀ {xs : List D} {ns : List Int} {vs : List V}, Zgu xs = some ns -> Vh (Rep K H ι) xs vs -> vs = ns.map V.int
 | [], ns, vs, e, P => by cases P; cases e; rfl
 | .int i :: r, ns, vs, e, P => by
  simp only [Zgu] at e
  obtain ⟨s, e1, rfl⟩ := Zm e
  cases P with
  | cons p P =>
   simp at p
   subst p
   rw [Zk4 e1 P]
   rfl
 | .non :: _, _, _, e, _ => by simp [Zgu] at e
 | .bl _ :: _, _, _, e, _ => by simp [Zgu] at e
 | .str _ :: _, _, _, e, _ => by simp [Zgu] at e
 | .ty _ :: _, _, _, e, _ => by simp [Zgu] at e
 | .tup _ :: _, _, _, e, _ => by simp [Zgu] at e
 | .fl _ :: _, _, _, e, _ => by simp [Zgu] at e
 | .ref _ :: _, _, _, e, _ => by simp [Zgu] at e
theorem Zl5 : ∀ {ns : List Int} {us : List Vb}, Uak us ns -> Zbp (ns.map V.int) us := by
 intro ns us h
 induction h with
 | nil => exact .nil
 | cons n t _ ih => exact .cons ⟨t, rfl⟩ ih
theorem Zml {K : Xa} (ns : List Int) : Vh (Rep K H ι) (ns.map D.int) (ns.map V.int) := by
 induction ns with
 | nil => exact .nil
 | cons n r ih => exact .cons (by simp) ih
end
section
variable {X : Cx} {tg : Vq}
nonrec def Ziu : D -> HD -> Option (List D × Zhn)
 | .tup xs, _ => some (xs, [])
 | .fl xs, _ => some (xs, [])
 | .ref n, H => match H[n]? with
  | some (.lst xs) => some (xs, [(n, .lst xs)])
  | _ => none
 | _, _ => none
def Zn5 (i : Int) : Prop := -(2 ^ 62) ≤ i ∧ i < 2 ^ 62
instance (i : Int) : Decidable (Zn5 i) := by unfold Zn5; exact inferInstance
nonrec def Zaq (lo : Int) (n : Nat) : List D := (Wcw n).map fun k : Nat => .int (lo + (k : Int))
theorem Zpj {lo : Int} {n i : Nat} {d : D} (h : (Zaq lo n)[i]? = some d) : i < n ∧ d = .int (lo + i) := by
 unfold Zaq at h
 rw [Waf] at h
 obtain ⟨k, h1, rfl⟩ := Zm h
 rw [Xd] at h1
 obtain ⟨hl, h1⟩ := h1
 simp at h1 hl
 subst h1
 exact ⟨hl, rfl⟩
theorem Zq1 {K : Xa} {H0 : Hp} {ι0 : List Ve} (lo : Int) (n : Nat) : ItRep K (Itr lo n) (Zaq lo n) [] H0 ι0 := by
 refine ⟨fun i H2 ι2 Hd2 l2 h2 _ hi => (show i < n by simpa [Zaq] using hi), fun i H2 ι2 Hd2 d x H3 l2 h2 _ hd y => ?_, fun i H2 ι2 Hd2 l2 h2 _ hi => (show n ≤ i by simpa [Zaq] using hi)⟩
 obtain ⟨rfl, rfl⟩ := y
 obtain ⟨_, rfl⟩ := Zpj hd
 exact ⟨ι2, Le.refl, h2, by simp⟩
nonrec def iR1 (f : AF) : ItF := fun σ H => (f σ H).bind fun p => match p.1 with
 | [.int j] => if Zn5 j then some ((Zaq 0 j.toNat, []), p.2) else none
 | _ => none
theorem Zpc {a : Vq} {f : AF} {p pos : Pos} (hg : Gl X "range") (hm : X.mg "range" = none) (ha : PAf X [a] f) (hs : starEach [a] X.env = [(false, eval a X.env)] := by rfl) : PIf X tg (.Call (.Name "range" p) [a] [] pos) (iR1 f) := by
 refine PIi (Zqi hg hm ha hs) fun σ H R zz => ?_
 obtain ⟨ι, σd, Hd, xs, own, Hd', s, hr, e, q⟩ := zz
 obtain ⟨⟨ds, H1⟩, e1, e⟩ := Zo e
 dsimp only at e
 split at e
 ·rename_i j
  split at e
  ·rename_i hj
   cases e
   refine ⟨ι, σd, Hd, _, _, s, hr, e1, fun vs H' ι' l h P => ?_⟩
   obtain ⟨v, rfl, r⟩ := Zl0 P
   simp at r
   subst r
   exact ⟨j, rfl, hj.1, hj.2, q _ H' ι' l h (Zq1 0 _)⟩
  ·cases e
 ·cases e
end
open Builtin.SmallTypes (nextOf)
section
variable {prog : Vf} {w : Vk} {A : Vo} {E : Vb -> Vd -> Prop} {s : Vd}
theorem Zoh {j t : Ve} {i : Nat} {its : Array Vb} {x : Vb} {Q : Vb -> Vd -> Prop} (hj : s.heap.IsTupleIter j t i) (ht : s.heap.IsTuple t its) (hx : its[i]? = some x)
  (hQ : ∀ h', h'.IsTupleIter j t (i + 1) -> Xz j s.heap h' -> Q x { s with heap := h' }) : wpAny (model prog w) A (nextOf (.ref j)) Q E s := by
 obtain ⟨oj, ho, hcj, hdj⟩ := id hj
 obtain ⟨ot, hot, _, nt, hdt⟩ := ht
 unfold nextOf
 refine Va (Vg (name := Ub "__next__") hj.typeIs Uy (Vl Uy hj.typeIs Tbh ?_ (Tbe _)))
 show wpAny _ _ (field (.ref j) 0 >>= _) _ _ s
 refine Va (Vj ho hdj (x := .ref t) rfl ?_)
 show wpAny _ _ (if (Ud t == Ur) = true then _ else _) _ _ s
 rw [if_neg (show ¬ ((Ud t == Ur) = true) by intro z; cases z)]
 show wpAny _ _ (field (.ref j) 1 >>= _) _ _ s
 refine Va (Vj ho hdj (x := .int i 0) rfl ?_)
 show wpAny _ _ (seqItems? (.ref t) >>= _) _ _ s
 refine Va (wpAny_seqItems hot hdt ?_)
 simp only [Xy, hx]
 refine Va (Uaf ho hdj (by simp) (Vc ⟨x, rfl, Vc (hQ _ ⟨_, Wbg _ ho (Tal (Taa hdj _)), (Tbq ..).trans hcj, ?_⟩ (Xz.update ..))⟩))
 rw [Taa hdj]; simp [rawInt]
theorem Zr3 {j t : Ve} {i : Nat} {its : Array Vb} {Q : Vb -> Vd -> Prop} (hh : A.handled = none) (hj : s.heap.IsTupleIter j t i) (ht : s.heap.IsTuple t its) (hx : its[i]? = none)
  (hE : ∀ h' e, Wdh j s.heap h' → (∃ o, h'.get? e = some o ∧ o.cls = .type "StopIteration") → E (.ref e) { s with heap := h' }) : wpAny (model prog w) A (nextOf (.ref j)) Q E s := by
 obtain ⟨oj, ho, hcj, hdj⟩ := id hj
 obtain ⟨ot, hot, _, nt, hdt⟩ := ht
 unfold nextOf
 refine Va (Vg (name := Ub "__next__") hj.typeIs Uy (Vl Uy hj.typeIs Tbh ?_ (Tbe _)))
 show wpAny _ _ (field (.ref j) 0 >>= _) _ _ s
 refine Va (Vj ho hdj (x := .ref t) rfl ?_)
 show wpAny _ _ (if (Ud t == Ur) = true then _ else _) _ _ s
 rw [if_neg (show ¬ ((Ud t == Ur) = true) by intro z; cases z)]
 show wpAny _ _ (field (.ref j) 1 >>= _) _ _ s
 refine Va (Vj ho hdj (x := .int i 0) rfl ?_)
 show wpAny _ _ (seqItems? (.ref t) >>= _) _ _ s
 refine Va (wpAny_seqItems hot hdt ?_)
 simp only [Xy, hx]
 refine Va (Uca (Va (Uaf ho hdj (by simp) ?_)))
 show wpAny _ _ (newExc (.type "StopIteration") [] >>= _) _ _ _
 refine Va ?_
 simp only [newExc, newTuple]
 refine Va (Vi ?_ (by size_fits))
 refine Va (m := firstArgMember _ _) (wpAny_of_eq (a := Ur) (by first | rfl | (simp only [firstArgMember]; rfl)) (Vi ?_ (by size_fits)))
 simp only [raiseNew]
 refine Va (wpAny_handled ?_)
 first | rw [show A.in1.handled = none from hh] | rw [hh]
 exact Va (Vc (wpAny_throw (hE _ _ (((Xz.update ..).extBut.push _).push _) ⟨_, Xf _ rfl, rfl⟩)))
theorem Zsy {e j t : Ve} {i : Nat} {c : Int} {its : Array Vb} {x old : Vb} {Q : Option Vb -> Vd -> Prop} (he : Ual s.heap e j c old) (hj : s.heap.IsTupleIter j t i) (ht : s.heap.IsTuple t its) (hx : its[i]? = some x) (hne : e ≠ j)
  (hQ : ∀ h' tk, Ubl h' e j (c + 1) x s.heap.objs.size → h'.IsTupleIter j t (i + 1) → h'.get? s.heap.objs.size = some { cls := .type "tuple", data := .seq #[.int c tk, x] } → h'.objs.size = s.heap.objs.size + 1 →
   (∀ b o, b ≠ e -> b ≠ j -> s.heap.get? b = some o -> h'.get? b = some o) -> Q (some (.ref s.heap.objs.size)) { s with heap := h', toks := s.toks + 1 }) :
  wpAny (model prog w) A (pyNext (.ref e)) Q E s := by
 have hT : s.TypeIs (.ref e) "enumerate" := ⟨_, he, rfl⟩
 unfold pyNext
 refine Va (Vz (Vg (name := Ub "__next__") hT Uj (Vl Uj hT Tai ?_ (Tae _))))
 obtain ⟨hp, g, d, tk, os⟩ := s
 show wpAny _ _ (field (.ref e) 2 >>= _) _ _ _
 refine Va (Vj he rfl (x := .ref j) rfl (Va (Zoh hj ht hx fun h1 j1 s1 => ?_)))
 replace s1 : Xz j hp h1 := s1
 have e1 : Ual h1 e j c old := (s1.2 e hne).trans he
 show wpAny _ _ (field (.ref e) 3 >>= _) _ _ ⟨h1, g, d, tk, os⟩
 refine Va (Vj e1 rfl (x := rawInt c) rfl ?_)
 show wpAny _ _ (field (.ref e) 4 >>= _) _ _ ⟨h1, g, d, tk, os⟩
 refine Va (Vj e1 rfl (x := .none) rfl ?_)
 show wpAny _ _ (mkInt c >>= _) _ _ ⟨h1, g, d, tk, os⟩
 refine Va (wpAny_mkInt ?_)
 show wpAny _ _ (setField (.ref e) 3 (rawInt (c + 1)) >>= _) _ _ ⟨h1, g, d, tk + 1, os⟩
 refine Va (Vp e1 (by simp) fun h2 e2 s2 => ?_)
 replace s2 : Xz e h1 h2 := s2
 replace e2 : Ual h2 e j (c + 1) old := e2
 show wpAny _ _ (setField (.ref e) 4 .none >>= _) _ _ ⟨h2, g, d, tk + 1, os⟩
 refine Va (Vp e2 (by simp) fun h3 e3 s3 => ?_)
 replace s3 : Xz e h2 h3 := s3
 replace e3 : Ual h3 e j (c + 1) old := e3
 show wpAny _ _ (newTuple [.int c tk, x] >>= _) _ _ ⟨h3, g, d, tk + 1, os⟩
 refine Va (wpAny_newTuple ?_)
 have e4 : Ual (h3.push { cls := .type "tuple", data := .seq #[.int c tk, x] }) e j (c + 1) old := Xb _ e3
 generalize q4 : h3.push { cls := .type "tuple", data := .seq #[.int c tk, x] } = h4 at e4
 have zz : h3.objs.size = hp.objs.size := by rw [s3.1, s2.1, s1.1]
 have lt : e < hp.objs.size := Xe he
 have t4 : h4.get? hp.objs.size = some { cls := .type "tuple", data := .seq #[.int c tk, x] } := by rw [← q4, ← zz]; exact Xf _ rfl
 have z4 : h4.objs.size = hp.objs.size + 1 := by rw [← q4, Wbv, zz]
 have k4 : ∀ b o, b ≠ e -> b ≠ j -> hp.get? b = some o -> h4.get? b = some o := fun b o n1 n2 q => by
  rw [← q4]; exact Xb _ (s3.extBut b o n1 (s2.extBut b o n1 (s1.extBut b o n2 q)))
 have j4 : h4.IsTupleIter j t (i + 1) := by
  obtain ⟨o, ho, r⟩ := id j1
  exact ⟨o, by rw [← q4]; exact Xb _ (s3.extBut j o (Ui hne) (s2.extBut j o (Ui hne) ho)), r⟩
 show wpAny _ _ (Ul (.ref e) >>= _) _ _ ⟨h4, g, d, tk + 1, os⟩
 rw [zz]
 clear q4 e3 s3 e2 s2 e1 s1 j1 zz h3 h2 h1
 refine Va ?_
 unfold Ul
 refine Va (Vj e4 rfl (x := .none) rfl (Vc ?_))
 simp only [if_true]
 refine Va (Uca (Va (Vj e4 rfl (x := old) rfl (Va (Vp e4 (by simp) fun h5 e5 s5 => ?_)))))
 replace s5 : Xz e h4 h5 := s5
 replace e5 : Ual h5 e j (c + 1) x := e5
 show wpAny _ _ (Uk (.ref e) (.ref hp.objs.size) >>= _) _ _ ⟨h5, g, d, tk + 1, os⟩
 refine Va ?_
 unfold Uk
 refine Va (Vp e5 (by simp) fun h6 e6 s6 => ?_)
 replace s6 : Xz e h5 h6 := s6
 replace e6 : Ubl h6 e j (c + 1) x hp.objs.size := e6
 refine Vp e6 (by simp) fun h7 e7 s7 => ?_
 replace s7 : Xz e h6 h7 := s7
 replace e7 : Ubl h7 e j (c + 1) x hp.objs.size := e7
 have up : ∀ b o, b ≠ e -> h4.get? b = some o -> h7.get? b = some o := fun b o n q => s7.extBut b o n (s6.extBut b o n (s5.extBut b o n q))
 refine Va (wpAny_letGo (Vc ⟨_, rfl, Vc (hQ h7 tk e7 ?_ (up _ _ (Wbt lt) t4) (by rw [s7.1, s6.1, s5.1, z4]) fun b o n1 n2 q => up b o n1 (k4 b o n1 n2 q))⟩))
 obtain ⟨o, ho, r⟩ := id j4
 exact ⟨o, up j o (Ui hne) ho, r⟩
theorem Zq9 {e j t : Ve} {i : Nat} {c : Int} {its : Array Vb} {old : Vb} {Q : Option Vb -> Vd -> Prop} (hh : A.handled = none) (he : Ual s.heap e j c old) (hj : s.heap.IsTupleIter j t i) (ht : s.heap.IsTuple t its) (hx : its[i]? = none)
  (hQ : ∀ h', Wdh j s.heap h' -> Q none { s with heap := h' }) : wpAny (model prog w) A (pyNext (.ref e)) Q E s := by
 have hT : s.TypeIs (.ref e) "enumerate" := ⟨_, he, rfl⟩
 unfold pyNext
 refine Va (Vz (Vg (name := Ub "__next__") hT Uj (Vl Uj hT Tai ?_ (Tae _))))
 show wpAny _ _ (field (.ref e) 2 >>= _) _ _ _
 refine Va (Vj he rfl (x := .ref j) rfl (Va (Zr3 hh hj ht hx fun h' z he' zz => ?_)))
 obtain ⟨o, ho, hc⟩ := zz
 exact Va (Ubh (T := "StopIteration") (b := true) ⟨o, ho, hc⟩ Ubs (Vc (hQ _ he')))
open AutoSeq1 (wpAny_loadPart') in
theorem Zp7 (t : Ve) (its : Array Vb) (n : Nat) (dct : Option Ve) (sl : Array (Option Vb)) :
  Meets (Builtin.«enumerate.__new__» ⟨[.type "enumerate", .ref t], []⟩) (fun _ R s => s.heap.get? t = some { cls := .type "tuple", dict := dct, data := .seq its n, slots := sl } ∧
   R (.ok (.ret (.ref (s.heap.push { cls := .type "tuple_iterator", data := .fields #[.ref t, .int 0 0] }).objs.size)))
    { s with heap := (s.heap.push { cls := .type "tuple_iterator", data := .fields #[.ref t, .int 0 0] }).push { cls := .type "enumerate", data := .fields #[.none, .bool false, .ref s.heap.objs.size, rawInt 0, .none, .none] } }) :=
 .of_wp fun prog w A R s h => by
  obtain ⟨hp, g, d, tk, os⟩ := s; obtain ⟨hl, h⟩ := h
  have hsub := sub_enumerate
  have hL : Heap.IsTuple (Shared.heap ⟨hp, g, d, tk, os⟩) t its := ⟨_, hl, rfl, n, rfl⟩
  wp_walk using Vm hl
  refine wpAny_stack_any fun st => Vc ?_
  split
  ·rename_i k _ _ _ _ _
   cases (k == Tca "enumerate") <;> (wp_walk using Vm hl, Uax hL; exact ⟨_, rfl, h⟩)
  ·wp_walk using Vm hl, Uax hL
   exact ⟨_, rfl, h⟩
theorem Zo1 {t : Ve} {its : Array Vb} {Q : Vb -> Vd -> Prop} (hL : s.heap.IsTuple t its)
  (h : ∀ h', Ual h' (s.heap.objs.size + 1) s.heap.objs.size 0 .none -> h'.IsTupleIter s.heap.objs.size t 0 -> h'.objs.size = s.heap.objs.size + 2 →
   (∀ b o, s.heap.get? b = some o -> h'.get? b = some o) -> Q (.ref (s.heap.objs.size + 1)) { s with heap := h' }) :
  wpAny (model prog w) A (call (.type "enumerate") [.ref t]) Q E s := by
 obtain ⟨⟨k, dct, dt, sl⟩, hl, hc, n, hd⟩ := hL
 replace hc : k = .type "tuple" := hc
 replace hd : dt = .seq its n := hd
 subst hc hd
 refine callType_new F.called_enumerate (by decide) (Tbu _) (Tbv _) (fun obj => Tcb obj _) Tbw (Zp7 t its n dct sl) ⟨hl, ?_⟩
 have hz : (s.heap.push { cls := .type "tuple_iterator", data := .fields #[.ref t, .int 0 0] }).objs.size = s.heap.objs.size + 1 := Wbv ..
 show _ ∧ _
 rw [hz]
 have he : Ual ((s.heap.push { cls := .type "tuple_iterator", data := .fields #[.ref t, .int 0 0] }).push { cls := .type "enumerate", data := .fields #[.none, .bool false, .ref s.heap.objs.size, rawInt 0, .none, .none] }) (s.heap.objs.size + 1) s.heap.objs.size 0 .none := by
  have q := Xf (s.heap.push { cls := .type "tuple_iterator", data := .fields #[.ref t, .int 0 0] }) (o := { cls := .type "enumerate", data := .fields #[.none, .bool false, .ref s.heap.objs.size, rawInt 0, .none, .none] }) rfl
  rw [hz] at q; exact q
 exact ⟨⟨_, he, rfl⟩, h _ he ⟨_, Xb _ (Xf _ rfl), rfl, rfl⟩ (by rw [Wbv, hz]) fun b o x => Xb _ (Xb _ x)⟩
end
nonrec def IteT (K : Xa) (c : Int) (a : Ve) : It :=
 ⟨fun i H => ∃ xs x, SqT K H a xs ∧ xs[i]? = some x, fun i H v H' => ∃ p x, H p = none ∧ v = .ref p ∧ H' = upd H p (.tup [.int (c + i), x]) ∧ ∀ xs, SqT K H a xs -> xs[i]? = some x, fun i H => ∃ xs, SqT K H a xs ∧ xs.length ≤ i⟩
theorem Zo8 {P : Vf} {w : Vk} {K : Xa} {es : List Vq} {k : Nat} {pos : Pos} (a e j : Ve) (c : Int) (hne : e ≠ j) : Turn P w K (.Tuple es k pos) (IteT K c a) [e, j] e (fun i h => ∃ old, Ual h e j (c + i) old ∧ h.IsTupleIter j a i) where
 mem := by simp
 obj := fun i h st b hb => by
  obtain ⟨old, he, o, ho, hc, hd⟩ := st
  rcases Xn.mp hb with rfl | hb
  ·exact ⟨_, he, fun v z => by cases z⟩
  ·have : b = j := by simpa using hb
   subst this
   exact ⟨o, ho, fun v z => by rw [hd] at z; cases z⟩
 keep := fun i h h' st kk => by
  obtain ⟨old, he, o, ho, r⟩ := st
  exact ⟨old, kk e (by simp) _ he, o, kk j (by simp) o ho, r⟩
 item := by
  intro X hP hw hK hc i pins s σ H E I hf st hg
  subst hP hw hK
  obtain ⟨xs, x, hq, hx⟩ := hg
  obtain ⟨old, he, hj⟩ := st
  obtain ⟨its, rv, p, hz⟩ := I.tuple hq
  obtain ⟨u, hu, ru⟩ := rv.get hx
  have fe := hf e (by simp)
  have fj := hf j (by simp)
  refine Zsy he hj (show s.heap.IsTuple a its.toArray from p) (x := u) (by simpa using hu) hne fun h' tk eo j' t' z' kk => ?_
  refine ⟨_, rfl, Uav (s := { s with heap := h', toks := s.toks + 1 }) eo fun h2 e2 s2 => ?_⟩
  replace s2 : Xz e h' h2 := s2
  have le : e < s.heap.objs.size := Xe he
  have ne2 : s.heap.objs.size ≠ e := Wbt le
  -- the iterator's two records have turned, the pair is new
  have t2 : h2.get? s.heap.objs.size = some { cls := .type "tuple", data := .seq #[.int (c + i) tk, u] } := s2.extBut _ _ ne2 t'
  have hp0 : H s.heap.objs.size = none := I.hok.fresh (Xc _)
  have up : ∀ b o, b ∉ [e, j] -> s.heap.get? b = some o -> h2.get? b = some o := fun b o hb q =>
   s2.extBut b o (fun z => hb (by simp [z])) (kk b o (fun z => hb (by simp [z])) (fun z => hb (by simp [z])) q)
  have I2 : Inv X pins σ (upd H s.heap.objs.size (.tup [.int (c + i), x])) { s with heap := h2, toks := s.toks + 1 } := by
   refine I.step (g' := s.gens) (d' := s.drawn) (t' := s.toks + 1) (ch := [e, j]) (fun b hb => ?_) (fun b o _ _ hb q n => up b o hb q) (fun b o _ _ hb q n => ⟨o.slots, up b o hb q⟩) (fun b o _ q n => ?_) (fun b o hb q => ⟨o, up b o hb q⟩) (fun b ys q => ?_) (fun b o y q => ?_) (fun b ps q => ⟨#[], ?_⟩) (fun m hm => ?_) (fun b o q => ?_) I.bare
   ·have := hf b hb; exact ⟨this.2.2.2.1, this.2.1, this.2.2.2.2.1, this.2.2.2.2.2⟩
   ·rw [Zai (Xo (Xe q))]; exact n
   ·rw [Zai (Zak q hp0)]; exact q
   ·rw [Zai (Zak q hp0)]; exact q
   ·rw [Zai (Zak q hp0), q]; simp
   ·obtain ⟨o, es', ep, ho, r⟩ := hm
    exact ⟨o, es', ep, s2.extBut _ o (Ui fe.2.1) (kk _ o (Ui fe.2.1) (Ui fj.2.1) ho), r⟩
   ·by_cases hb : b = s.heap.objs.size
    ·subst hb
     rw [upd_same] at q
     cases q
     exact ⟨(by show 2 ≤ sizeLine; decide), [.int (c + i) tk, u], .cons ⟨tk, rfl⟩ (.cons ru .nil), _, t2, rfl, ⟨_, rfl⟩, rfl⟩
    ·rw [Zai hb] at q
     refine (I.hok b o q).stay (fun d v hd z => up d v (fun hm => ?_) z) (fun d z => by rw [Zai (Zak z hp0)]; exact z) fun d ys z => by rw [Zai (Zak z hp0)]; exact z
     have : H d ≠ none := by
      rcases hd with rfl | hd
      ·rw [q]; simp
      ·rw [hd]; simp
     exact this (hf d hm).1
  refine ⟨.ref s.heap.objs.size, _, I2, rfl, ⟨_, x, hp0, rfl, rfl, fun ys hy => by rw [I.tuple_inj hy hq]; exact hx⟩, ?_, fun b hb => ?_⟩
  ·obtain ⟨o, ho, r⟩ := id j'
   have ec : c + ((i + 1 : Nat) : Int) = c + (i : Int) + 1 := by push_cast; omega
   exact ⟨u, by rw [ec]; exact e2, o, s2.extBut j o (Ui hne) ho, r⟩
  ·have hb2 : b ≠ s.heap.objs.size := by
    rcases Xn.mp hb with rfl | hb
    ·exact Xo le
    ·have : b = j := by simpa using hb
     subst this
     obtain ⟨o, ho, _⟩ := id hj
     exact Xo (Xe ho)
   rw [Zai hb2]; exact (hf b hb).1
 done := by
  intro X hP hw hK hc i pins s σ H E I hf st hg
  subst hP hw hK
  obtain ⟨xs, hq, hx⟩ := hg
  obtain ⟨old, he, hj⟩ := st
  obtain ⟨its, rv, p, hz⟩ := I.tuple hq
  obtain ⟨f0, f1, f2, f3, f4, f5⟩ := hf j (by simp)
  have hl := rv.length
  exact Zq9 (I.ok.hd hc) he hj (show s.heap.IsTuple a its.toArray from p) (by simp; omega) fun h' eb => ⟨rfl, I.turned (t' := s.toks) (fun b o hb q => eb b o hb q) f0 f1 f3 f4 f5⟩
 self := fun _ _ _ _ _ st h => by
  obtain ⟨old, he, _⟩ := st
  exact Uao he h
section
variable {X : Cx}
nonrec def Zb9 (c : Int) : List D -> List D
 | [] => []
 | x :: r => .tup [.int c, x] :: Zb9 (c + 1) r
theorem Zeu : ∀ (xs : List D) (c : Int), (Zb9 c xs).length = xs.length
 | [], _ => rfl
 | x :: r, c => by simp [Zb9, Zeu r]
theorem Zi2 : ∀ {xs : List D} {c : Int} {i : Nat} {d : D}, (Zb9 c xs)[i]? = some d -> ∃ x, xs[i]? = some x ∧ d = .tup [.int (c + i), x]
 | [], c, i, d, h => by simp [Zb9] at h
 | x :: r, c, 0, d, h => by simp [Zb9] at h; exact ⟨x, rfl, by rw [← h]; simp⟩
 | x :: r, c, i + 1, d, h => by
  simp only [Zb9, Wds] at h
  obtain ⟨y, h1, h2⟩ := Zi2 h
  refine ⟨y, by simpa using h1, ?_⟩
  rw [h2]
  have : c + 1 + (i : Int) = c + ((i + 1 : Nat) : Int) := by push_cast; omega
  rw [this]
theorem Zvg {K : Xa} {H0 : Hp} {ι0 : List Ve} {a : Ve} {c : Int} {xs : List D} {vs : List V} (hS : SqT K H0 a vs) (P : Vh (Rep K H0 ι0) xs vs)
  (inj : ∀ (i : Nat) (H : Hp) (x : V), (∀ ys, SqT K H a ys -> ys[i]? = some x) -> SqT K H a vs -> vs[i]? = some x) : ItRep K (IteT K c a) (Zb9 c xs) [] H0 ι0 := by
 refine ⟨fun i H2 ι2 Hd2 l2 h2 _ hi => ?_, fun i H2 ι2 Hd2 d v H3 l2 h2 _ hd y => ?_, fun i H2 ι2 Hd2 l2 h2 _ hi => ⟨vs, l2.tup a vs hS, by rw [← Prd.len P, ← Zeu xs c]; exact hi⟩⟩
 ·exact ⟨vs, vs[i]'(by rw [← Prd.len P, ← Zeu xs c]; exact hi), l2.tup a vs hS, by simp⟩
 ·obtain ⟨p, x, hp, rfl, rfl, y⟩ := y
  obtain ⟨x', hx', rfl⟩ := Zi2 hd
  obtain ⟨u, hu, ru⟩ := Prd.get P hx'
  have := y vs (l2.tup a vs hS)
  rw [hu] at this
  cases this
  refine ⟨ι2, Le.fresh hp _, h2.tup hp _, Zbj.mpr ⟨p, _, rfl, SqT.of upd_same, .cons (by simp) (.cons ((ru.mono l2).mono (Le.fresh hp _)) .nil)⟩⟩
nonrec def Zr1 (f : AF) : ItF := fun σ H => (f σ H).bind fun p => match p.1 with
 | [.tup xs] => some ((Zb9 0 xs, []), p.2)
 | _ => none
theorem Zoi {es : List Vq} {k : Nat} {tp p pos : Pos} {a : Vq} {f : AF} (hg : Gl X "enumerate") (hm : X.mg "enumerate" = none) (ha : PAf X [a] f) (hs : starEach [a] X.env = [(false, eval a X.env)] := by rfl) : PIf X (.Tuple es k tp) (.Call (.Name "enumerate" p) [a] [] pos) (Zr1 f) := by
 rintro pins s σ H R I ⟨ι, σd, Hd, xs, own, Hd', sr, hr, e, q⟩
 obtain ⟨⟨ds, H1⟩, e1, e⟩ := Zo e
 dsimp only at e
 split at e
 ·rename_i ys
  cases e
  refine Call_ (Zfh I hg hm boot_enumerate (Uu (thn (ha pos pins s σ H (fun vs H' => ∃ a ws, vs = [.ref a] ∧ SqT X.K H' a ws ∧ ∀ (J : It) (H2 : Hp), H2 = H' -> J = IteT X.K 0 a -> R J H2) I ⟨ι, σd, Hd, _, _, sr, hr, e1, fun vs H' ι' l h P => ?_⟩) fun us s1 ⟨vs, H2, I2, r2, q2⟩ => ?_) hs rfl))
  ·obtain ⟨v, rfl, r⟩ := Zl0 P
   obtain ⟨ad, ws, rfl, hS, P2⟩ := Zbj.mp r
   refine ⟨ad, ws, rfl, hS, fun J H2 e2 e3 => ?_⟩
   subst e2 e3
   exact q _ _ ι' l h (Zvg hS P2 fun i H x y h => y ws h)
  ·obtain ⟨ad, ws, rfl, hS, q2⟩ := q2
   obtain ⟨u, rfl, ru⟩ := Zhl r2
   cases ru
   obtain ⟨its, rv, p, hz⟩ := I2.tuple hS
   refine Zo1 (show s1.heap.IsTuple ad its.toArray from p) fun h' he hj z' kk => ?_
   have I3 : Inv X pins σ H2 { s1 with heap := h' } := I2.kept (t' := s1.toks) kk
   refine Uao (s := { s1 with heap := h' }) he ?_
   have ne : s1.heap.objs.size + 1 ≠ s1.heap.objs.size := Wfh _
   refine ⟨s1.heap.objs.size + 1, [s1.heap.objs.size + 1, s1.heap.objs.size], _, IteT X.K 0 ad, H2, rfl, I3, Zo8 ad _ _ 0 ne, ⟨.none, by simpa using he, hj⟩, fun b hb => ?_, q2 _ _ rfl rfl⟩
   have : s1.heap.objs.size ≤ b := by
    rcases Xn.mp hb with rfl | hb
    ·exact Wci _
    ·have : b = s1.heap.objs.size := by simpa using hb
     rw [this]; exact Xc _
   have fp := I2.fpOk (b := b) (H' := H2) this (I2.hok.fresh this)
   exact fp
 ·cases e
end
structure Fn (P : Vf) (w : Vk) (K : Xa) (mg : Str -> Option Vb) (base : Vu) (k : Nat) (x : Str) (ps : List Str) (F : FF) : Prop where
 ex : ∃ f fd, FnOk P w K mg base CX0 k f fd ps (spF K ps.length F) ∧ Zfl K fd ps [] ∧ Waz K (.ref f) = true ∧ mg x = some (.ref f) ∧ ∃ (oc : Vb) (od : Option Ve) (osl : Array (Option Vb)), K.lookup f = some ⟨oc, od, .func fd, osl⟩
theorem Zao {X : Cx} {k n : Nat} {ps : List Str} {x : Str} {p pos : Pos} {F : FF} {fa : AF} {e : Vq} {es : List Vq} (G : Fn X.prog X.w X.K X.mg X.base k x ps F) (hr : Room k X.A) (hg : Gl X x)
  (ha : PAf X (e :: es) fa) (hdb : (x == ("__debug__" : Str)) = false := by decide) (he : starEach (e :: es) X.env = (false, eval e X.env) :: starEach es X.env := by exact Zau rfl) (hpl : (backTo pos (starEach es X.env)).any (·.1) = false := by exact Zbv rfl) (hn : ps.length = n := by rfl) :
  PEf X (.Call (.Name x p) (e :: es) [] pos) (Zam n F fa) := by
 subst hn
 obtain ⟨f, fd, G1, hb, hk, hm, _⟩ := G.ex
 exact Ztq G1 hr hg hm hk hb ha hdb he hpl
def Tf (K : Xa) (mg : Str -> Option Vb) (x : Str) (st : Vw) : Prop := ∃ f fd, Fun K x x st f fd ∧ mg x = some (.ref f)
theorem us0 {us : List Vb} (h : us.length = 0) : us = [] := List.length_eq_zero_iff.mp h
theorem us1 {us : List Vb} (h : us.length = 1) : ∃ a, us = [a] := by
 obtain ⟨a, r⟩ := Wan h
 obtain ⟨t, rfl⟩ := r
 rw [us0 (us := t) (by simpa using h)]
 exact ⟨a, rfl⟩
theorem us2 {us : List Vb} (h : us.length = 2) : ∃ a b, us = [a, b] := by
 obtain ⟨a, t, rfl⟩ := Wan h
 obtain ⟨b, rfl⟩ := us1 (us := t) (by simpa using h)
 exact ⟨a, b, rfl⟩
theorem us3 {us : List Vb} (h : us.length = 3) : ∃ a b c, us = [a, b, c] := by
 obtain ⟨a, t, rfl⟩ := Wan h
 obtain ⟨b, c, rfl⟩ := us2 (us := t) (by simpa using h)
 exact ⟨a, b, c, rfl⟩
theorem us4 {us : List Vb} (h : us.length = 4) : ∃ a b c d, us = [a, b, c, d] := by
 obtain ⟨a, t, rfl⟩ := Wan h
 obtain ⟨b, c, d, rfl⟩ := us3 (us := t) (by simpa using h)
 exact ⟨a, b, c, d, rfl⟩
theorem us5 {us : List Vb} (h : us.length = 5) : ∃ a b c d e, us = [a, b, c, d, e] := by
 obtain ⟨a, t, rfl⟩ := Wan h
 obtain ⟨b, c, d, e, rfl⟩ := us4 (us := t) (by simpa using h)
 exact ⟨a, b, c, d, e, rfl⟩
theorem tf_mk {K : Xa} {h : Vu} {mg : Str -> Option Vb} {x : Str} {st : Vw} {f : Ve} {oc : Vb} {od an : Option Ve} {osl : Array (Option Vb)} {kV doc pm cdv ct : Vb} (X : K.In h) (G : h.Ns mainGlobals mg)
  (a : Wdj K mainGlobals x = some (some (.ref f))) (l : K.lookup f = some ⟨oc, od, .func (Wbp x x (Zev st) (Zb7 st) (Zad st) .none kV doc pm an cdv ct), osl⟩)
  (c : Wda K cdv x = true) (k : Waz K (.ref f) = true) : Tf K mg x st := ⟨f, _, Zwr l c k, Wco X G a⟩
theorem Za5 {P : Vf} {w : Vk} {K : Xa} {mg : Str -> Option Vb} {base : Vu} {x : Str} {st : Vw} {N ps : List Str} {k : Nat} {b : SF} (T : Tf K mg x st) (S : FnScope N ps (Zad st))
  (hbd : ∀ (kV doc pm : Vb) (an : Option Ve) (cdv ct : Vb) (us : List Vb), us.length = ps.length -> bindArgs (Wbp x x (Zev st) (Zb7 st) (Zad st) .none kV doc pm an cdv ct) ⟨us, []⟩ = pure (ps.zip us))
  (hb : ∀ (f : Ve) (cdv : Vb) (A : Vo) (outer : List Env) (s : Vd) (H : Hp) (E : XK), Room k (A.deeper (envOfC x (Zad st) s.heap.objs.size f cdv)) →
   Zmv (Zfy CX0 P w K mg base N x (Zad st) f cdv A outer s H E).nox (Zb7 st) b) : Fn P w K mg base (k + 1) x ps (Za0 ps.length N.length b) := by
 obtain ⟨f, fd, F, hm⟩ := T
 refine ⟨f, fd, fn_f F S fun cdv A outer s H E hr => hb f cdv A outer s H E hr, F.binds hbd, F.kp, hm, ?_⟩
 obtain ⟨oc, od, kV, doc, pm, an, cdv, ct, osl, rfl, lk, hcd⟩ := F.ex
 exact ⟨oc, od, osl, lk⟩
nonrec def blkB (sc scope : Ubi) (N : List Str) (x : Str) (cn : List Str) (ci : List Nat) : Bool :=
 (scope.kind == .function) && scope.names.all (fun y => y.2 != .cell) && scope.names.all (fun y => y.2 != .local || scope.names.lookup y.1 == some .local) && (scope.names.lookup x == some .local) &&
 scope.names.all (fun y => y.2 != .free || sc.names.lookup y.1 == some .cell) && decide (x :: cn).Nodup && (ci.length == cn.length) &&
 (cn.zip ci).all (fun p => N[p.2]? == some p.1 && scope.names.lookup p.1 == some .free && sc.names.lookup p.1 == some .cell)
theorem Zck {P : Vf} {w : Vk} {K : Xa} {mg : Str -> Option Vb} {base : Vu} {N : List Str} {qual : Str} {sc scope : Ubi} {f : Ve} {cdv : Vb} {A : Vo} {outer : List Env} {s : Vd} {H : Hp} {E : XK} {x : Str} {cn : List Str} {ci : List Nat}
  (h : blkB sc scope N x cn ci = true) : BlkOk (Zfy CX0 P w K mg base N qual sc f cdv A outer s H E).nox scope x cn ci := by
 unfold blkB at h
 simp only [Xv, Wao, Bool.or_eq_true, bne_iff_ne, ne_eq, beq_iff_eq, decide_eq_true_eq] at h
 obtain ⟨⟨⟨⟨⟨⟨⟨h1, h2⟩, h3⟩, h4⟩, h5⟩, h6⟩, h7⟩, h8⟩ := h
 refine ⟨h1, fun y hy => h2 y hy, fun y hy hl => (h3 y hy).resolve_left fun z => z hl, h4, fun y hy hf => ?_, h6, h7, fun j y hj => ?_⟩
 ·have := (h5 y hy).resolve_left fun z => z hf
  obtain ⟨c, hc⟩ := Zkm (n := s.heap.objs.size + 1) this
  exact Wcj.mpr ⟨c, hc⟩
 ·have hl : j < ci.length := by rw [h7]; exact (Xd.mp hj).1
  have hm : (y, ci[j]) ∈ cn.zip ci := by
   refine Wec.mpr ⟨j, ?_⟩
   rw [List.getElem?_zip_eq_some]
   exact ⟨hj, by simp [hl]⟩
  obtain ⟨⟨k1, k2⟩, k3⟩ := h8 _ hm
  exact ⟨ci[j], by simp [hl], k1, k2, .inl k3⟩
theorem Yan : bootBuiltins "len" = some (.builtin "len") := by decide +kernel
theorem Zrp : bootBuiltins "abs" = some (.builtin "abs") := by decide +kernel
theorem Zzw : bootBuiltins "max" = some (.builtin "max") := by decide +kernel
theorem Zlp : bootBuiltins "sorted" = some (.builtin "sorted") := by decide +kernel
theorem Zke : bootBuiltins "isinstance" = some (.builtin "isinstance") := by decide +kernel
theorem Zyd : bootBuiltins "repr" = some (.builtin "repr") := by decide +kernel
theorem Zmo : bootBuiltins "int" = some (.type "int") := by decide +kernel
theorem Zor : bootBuiltins "tuple" = some (.type "tuple") := by decide +kernel
theorem Zna : bootBuiltins "list" = some (.type "list") := by decide +kernel
theorem Zyz : bootBuiltins "bool" = some (.type "bool") := by decide +kernel
theorem Yae : bootBuiltins "str" = some (.type "str") := by decide +kernel
section
variable {X : Cx} {tg : Vq}
theorem Zxu {K : Xa} {H0 : Hp} {ι0 : List Ve} {a : Ve} {xs : List D} {vs : List V} (hS : SqT K H0 a vs) (P : Vh (Rep K H0 ι0) xs vs) : ItRep K (Itt K a) xs [] H0 ι0 := by
 refine ⟨fun i H2 ι2 Hd2 l2 h2 _ hi => ?_, fun i H2 ι2 Hd2 d x H3 l2 h2 _ hd y => ?_, fun i H2 ι2 Hd2 l2 h2 _ hi => ⟨vs, l2.tup a vs hS, by rw [← Prd.len P]; exact hi⟩⟩
 ·exact ⟨vs, vs[i]'(by rw [← Prd.len P]; exact hi), l2.tup a vs hS, by simp⟩
 ·obtain ⟨rfl, y⟩ := y
  obtain ⟨u, hu, ru⟩ := Prd.get P hd
  have := y vs (l2.tup a vs hS)
  rw [hu] at this
  cases this
  exact ⟨ι2, Le.refl, h2, ru.mono l2⟩
theorem Yai {K : Xa} {H0 : Hp} {ι0 : List Ve} {a : Ve} {xs : List D} {vs : List V} (hS : FzL K H0 a vs) (P : Vh (Rep K H0 ι0) xs vs) : ItRep K (Itl K a) xs [] H0 ι0 := by
 refine ⟨fun i H2 ι2 Hd2 l2 h2 _ hi => ?_, fun i H2 ι2 Hd2 d x H3 l2 h2 _ hd y => ?_, fun i H2 ι2 Hd2 l2 h2 _ hi => ⟨vs, (l2.fz a vs hS).sq, by rw [← Prd.len P]; exact hi⟩⟩
 ·exact ⟨vs, vs[i]'(by rw [← Prd.len P]; exact hi), (l2.fz a vs hS).sq, by simp⟩
 ·obtain ⟨rfl, y⟩ := y
  obtain ⟨u, hu, ru⟩ := Prd.get P hd
  have := y vs (l2.fz a vs hS).sq
  rw [hu] at this
  cases this
  exact ⟨ι2, Le.refl, h2, ru.mono l2⟩
theorem Zx8 {K : Xa} {H0 : Hp} {ι0 : List Ve} {a : Ve} {n : Nat} {xs : List D} (ha : ι0[n]? = some a) : ItRep K (Itl K a) xs [(n, .lst xs)] H0 ι0 := by
 have now : ∀ {H2 : Hp} {ι2 : List Ve} {Hd2 : HD}, Le K H0 ι0 H2 ι2 -> HRep K H2 ι2 Hd2 -> Zct [(n, DO.lst xs)] Hd2 -> ∃ ws, H2 a = some (.lst ws) ∧ Vh (Rep K H2 ι2) xs ws := fun {H2 ι2 Hd2} l2 h2 ok =>
  h2.obj n a _ (l2.get ha) (ok (n, .lst xs) (by simp))
 refine ⟨fun i H2 ι2 Hd2 l2 h2 ok hi => ?_, fun i H2 ι2 Hd2 d x H3 l2 h2 ok hd y => ?_, fun i H2 ι2 Hd2 l2 h2 ok hi => ?_⟩
 ·obtain ⟨ws, h3, P3⟩ := now l2 h2 ok
  exact ⟨ws, ws[i]'(by rw [← Prd.len P3]; exact hi), SqL.of h3, by simp⟩
 ·obtain ⟨ws, h3, P3⟩ := now l2 h2 ok
  obtain ⟨rfl, y⟩ := y
  obtain ⟨u, hu, ru⟩ := Prd.get P3 hd
  have := y ws (SqL.of h3)
  rw [hu] at this
  cases this
  exact ⟨ι2, Le.refl, h2, ru⟩
 ·obtain ⟨ws, h3, P3⟩ := now l2 h2 ok
  exact ⟨ws, SqL.of h3, by rw [← Prd.len P3]; exact hi⟩
nonrec def iSq (f : EF) : ItF := fun σ H => (f σ H).bind fun p => (Ziu p.1 p.2).map fun r => (r, p.2)
theorem Zdp {l : Vq} {f : EF} (hl : PEf X l f) : PIf X tg l (iSq f) := by
 rintro pins s σ H R I ⟨ι, σd, Hd, xs, own, Hd', sr, hr, e, q⟩
 obtain ⟨⟨d, H1⟩, e1, e⟩ := Zo e
 obtain ⟨⟨ys, ow⟩, e2, e⟩ := Zm e
 obtain ⟨e3, rfl⟩ := Wba.inj e
 obtain ⟨rfl, rfl⟩ := Wba.inj e3
 refine thn (hl pins s σ H (fun v H1 => ∃ a, v = .ref a ∧ (((∃ xs, SqL X.K H1 a xs) ∧ R (Itl X.K a) H1) ∨ ((∃ xs, SqT X.K H1 a xs) ∧ R (Itt X.K a) H1))) I ⟨ι, σd, Hd, _, _, sr, hr, e1, fun v H' ι' l h r => ?_⟩) fun v s1 ⟨x, H2, I2, r2, q2⟩ => ?_
 ·cases d with
  | tup zs =>
   cases e2
   obtain ⟨a, vs, rfl, hS, P⟩ := Zbj.mp r
   exact ⟨a, rfl, .inr ⟨⟨vs, hS⟩, q _ H' ι' l h (Zxu hS P)⟩⟩
  | fl zs =>
   cases e2
   obtain ⟨a, vs, rfl, hS, P⟩ := Zf6.mp r
   exact ⟨a, rfl, .inl ⟨⟨vs, hS.sq⟩, q _ H' ι' l h (Yai hS P)⟩⟩
  | ref n =>
   simp only [Ziu] at e2
   split at e2
   ·rename_i zs eo
    obtain ⟨e5, e6⟩ := Wba.inj (Waa.inj e2)
    subst e5 e6
    obtain ⟨a, rfl, ha⟩ := Za4.mp r
    obtain ⟨vs, h1, P⟩ := h.obj n a _ ha eo
    exact ⟨a, rfl, .inl ⟨⟨vs, SqL.of h1⟩, q _ H' ι' l h (Zx8 ha)⟩⟩
   ·cases e2
  | _ => simp [Ziu] at e2
 ·obtain ⟨a, rfl, q2⟩ := q2
  cases r2
  have fp : ∀ b ∈ [s1.heap.objs.size], Zsv X pins H2 b := fun b hb => by
   have e : b = s1.heap.objs.size := by simpa using hb
   subst e
   exact I2.fpOk (Xc _) (I2.hok.fresh (Xc _))
  rcases q2 with ⟨⟨xs, hq⟩, q2⟩ | ⟨⟨xs, hq⟩, q2⟩
  ·obtain ⟨its, rv, p, hz⟩ := I2.list hq
   exact Uap p.isList ⟨s1.heap.objs.size, [s1.heap.objs.size], _, _, H2, rfl, I2.kept (t' := s1.toks) fun b o e => Xb _ e, Zqd a _, ⟨_, Xf _ rfl, rfl, rfl⟩, fp, q2⟩
  ·obtain ⟨its, rv, p, hz⟩ := I2.tuple hq
   exact Uax (show s1.heap.IsTuple a its.toArray from p) ⟨s1.heap.objs.size, [s1.heap.objs.size], _, _, H2, rfl, I2.kept (t' := s1.toks) fun b o e => Xb _ e, Zpf a _, ⟨_, Xf _ rfl, rfl, rfl⟩, fp, q2⟩
end
theorem paf_c {X : Cx} {e : Vq} {es : List Vq} {f : EF} {g : AF} (ha : PEf X e f) (hr : PAf X es g) (hs : Zn6 e = true) : PAf X (e :: es) (Zaa f g) := Zot ha hr (Zau hs)
nonrec def Yah (F : FF) (K : Xa) : Sp := spF K 1 F
theorem Zq6 {F : FF} (h : ∀ ns : List Int, ns.length ≤ 63 -> ∃ Hd', F [.fl (ns.map .int)] [] = some (.bl true, Hd')) :
  ∀ (K : Xa) (H : Hp) (a : Ve) (ns : List Int), ns.length ≤ 63 -> Zzq H -> SqL K H a (ns.map V.int) -> Yah F K [.ref a] H (fun v _ => v = .bl true) fun _ _ _ => False := by
 intro K H a ns hl hO hS
 obtain ⟨Hd', e⟩ := h ns hl
 have fz : FzL K H a (ns.map V.int) := by
  rcases hS with (h | h) | h
  ·rcases hO a with z | ⟨o, xs, z⟩
   ·rw [h] at z; cases z
   ·rw [h] at z; cases z
  ·exact .inl h
  ·exact .inr h
 have P : Vh (Rep K H []) (ns.map D.int) (ns.map V.int) := by
  generalize ns = ks
  induction ks with
  | nil => exact .nil
  | cons k ks ih => exact .cons (by simp) ih
 refine ⟨[], [.fl (ns.map .int)], [], .bl true, Hd', rfl, ⟨rfl, List.nodup_nil, fun n a o h1 h2 => by simp at h1⟩, .cons (Zf6.mpr ⟨a, _, rfl, fz, P⟩) .nil, e, fun v H' ι' l h r => by simpa using r⟩
variable {X : Cx}
nonrec def Zkr (x : Vs) : Bool := x.canLay0 && x.showable && decide (x.depth ≤ 30) && decide (x.shown.length ≤ sizeLine)
nonrec def Zko : FF := fun ds H => match ds with
 | [d] => (toP H 30 d).bind fun x => if Zkr x = true then some (.str x.shown, H) else none
 | _ => none
theorem Zpl {k : Nat} (hr0 : Room k X.A) : Zi0 X (.builtin "repr") Zko := by
 rintro pins s σ H xs us Q I rv ⟨ι, ds, Hd, d, Hd', hr, P, e, q⟩
 unfold Zko at e
 split at e
 ·rename_i d0
  obtain ⟨v, rfl, r⟩ := Zl0 P
  obtain ⟨x, e1, e⟩ := Zo e
  split at e
  ·rename_i hc
   obtain ⟨rfl, rfl⟩ := Wba.inj (Waa.inj e)
   simp only [Zkr, Xv, decide_eq_true_eq] at hc
   obtain ⟨⟨⟨c1, c2⟩, c3⟩, c4⟩ := hc
   cases rv with
   | cons rx rv =>
    cases rv
    rename_i u
    obtain ⟨as, ra⟩ := Zci I hr _ _ e1 r rx
    have fin : ∀ h' t tk, (∀ b o, s.heap.get? b = some o -> h'.get? b = some o) -> EP X pins σ Q (.str x.shown t) { s with heap := h', toks := tk } := fun h' t tk k => ⟨.str x.shown, H, I.kept k, ⟨t, rfl⟩, q _ H ι Le.refl hr (by simp)⟩
    have un : X.A.units + 64 < cLine := hr0.units
    have byRef : ∀ a, u = .ref a → wpAny (model X.prog X.w) X.A (call (.builtin "repr") [u]) (EP X pins σ Q) X.xe s := fun a ea => by
     subst ea
     exact repr_of_reads' ra c2 (PyData.noDict_hsm (PyData.hasDict_of_canLay _ c1)) hr0.gd (by omega) (fun _ _ z => z) (fun h' t tk k => fin h' t tk k) c4
    cases ra with
    | none => exact PySem.P.repr_of_none (fin s.heap s.toks (s.toks + 1) fun _ _ z => z)
    | bool b => exact PySem.P.repr_of_bool (fin s.heap s.toks (s.toks + 1) fun _ _ z => z)
    | int i t => exact PySem.P.repr_of_int (by simpa [PyData.showable] using c2) (fin s.heap s.toks (s.toks + 1) fun _ _ z => z)
    | str z t => exact PySem.P.repr_of_str (fin s.heap s.toks (s.toks + 1) fun _ _ z => z) c4
    | list _ _ _ _ => exact byRef _ rfl
    | tuple _ _ _ _ => exact byRef _ rfl
    | dict _ _ _ _ => exact byRef _ rfl
  ·cases e
 ·cases e
nonrec def Zzn : List D -> Option (List Bool)
 | [] => some []
 | .bl b :: r => (Zzn r).map fun x => b :: x
 | _ :: _ => none
theorem Zlz {K : Xa} {H : Hp} {ι : List Ve} : ∀ {xs : List D} {bs : List Bool} {vs : List V} {us : List Vb}, Zzn xs = some bs -> Vh (Rep K H ι) xs vs -> Zbp vs us -> us = bs.map .bool
 | [], bs, vs, us, e, P, q => by cases e; cases P; cases q; rfl
 | d :: r, bs, vs, us, e, P, q => by
  cases P with
  | cons p P =>
   cases q with
   | cons q Q =>
    cases d <;> simp only [Zzn] at e <;> try cases e
    obtain ⟨y, e1, rfl⟩ := Zm e
    simp at p
    subst p
    cases q
    rw [Zlz e1 P Q]
    rfl
theorem Zup (bs : List Bool) : Zzn (bs.map .bl) = some bs := by
 induction bs with
 | nil => rfl
 | cons b r ih => simp [Zzn, ih]
end DL
namespace HT
open PySem PySem.Spec PyProof.Rows
section
variable {prog : Vf} {w : Vk} {A : Vo} {E : Vb -> Vd -> Prop} {s : Vd}
theorem Zhi {sl : Ve} {vk : Vb} {n : Nat} {Q : Int × Int × Nat -> Vd -> Prop} (hs : s.heap.IsSliceOf sl .none .none vk) (pk : Ubm vk (some (-1)))
  (h : Q ((n : Int) - 1, -1, n) s) : wpAny (model prog w) A (Ux (.ref sl) (pure (n : Int))) Q E s := by
 obtain ⟨os, hos, hcs, hds⟩ := id hs
 unfold Ux Tbn
 refine Va (Va (Vj hos hds (x := .none) rfl (Va (Vj hos hds (x := .none) rfl (Va (Vj hos hds (x := vk) rfl (Vc ?_)))))))
 refine Va (Zgx pk ?_)
 show wpAny _ _ (if ((-1 : Int) == 0) = true then _ else _) _ _ s
 rw [if_neg (by decide)]
 refine Va (Uaz (Va (Uaz (Va (Vc ?_)))))
 show wpAny _ _ (pure ((n : Int) - 1, (-1 : Int), Uh ((n : Int) - 1) (-1) (-1))) _ _ s
 have e : Uh ((n : Int) - 1) (-1) (-1) = n := by
  unfold Uh
  rw [if_neg (by decide)]
  have : (- -1 : Int) = 1 := by decide
  rw [this]
  split
  ·rw [Int.ediv_one]; omega
  ·omega
 rw [e]
 exact Vc h
theorem Zu1 (xs : Array Vb) : ((Wcw xs.size).filterMap fun (m : Nat) => xs[((xs.size : Int) - 1 + (m : Int) * (-1)).toNat]?).toArray = xs.toList.reverse.toArray := by
 have e : (fun (m : Nat) => xs[((xs.size : Int) - 1 + (m : Int) * (-1)).toNat]?) = (fun k => xs[k]?) ∘ (fun m => xs.size - 1 - m) := by
  funext m
  have : ((xs.size : Int) - 1 + (m : Int) * (-1)).toNat = xs.size - 1 - m := by omega
  simp only [Function.comp, this]
 rw [e, ← Wes, PySem.W.krv_range, List.filterMap_reverse, PySem.W.krv_all]
theorem getItem_tuple_rev {t sl : Ve} {items : Array Vb} {vk : Vb} {Q : Vb -> Vd -> Prop} (ht : Uce s.heap t items) (hs : s.heap.IsSliceOf sl .none .none vk) (pk : Ubm vk (some (-1)))
  (h : Q (.ref s.heap.objs.size) { s with heap := s.heap.push { cls := .type "tuple", data := .seq items.toList.reverse.toArray } })
  (hsz : items.size ≤ sizeLine) : wpAny (model prog w) A (getItem (.ref t) (.ref sl)) Q E s := by
 have htake : sizeOk (.seq items.toList.reverse.toArray) := by
  show items.toList.reverse.toArray.size ≤ sizeLine
  rw [Xi, Wep, Wcg]
  exact hsz
 obtain ⟨os, hos, hcs, hds⟩ := id hs
 have hTs : s.TypeIs (.ref sl) "slice" := ⟨os, hos, hcs⟩
 unfold getItem
 try with_reducible refine Vr ?_
 first | refine Va (Vc ?_) | skip
 refine Va (Ube ht.typeIs (by decide) ?_)
 refine Va (Vg (name := Ub "__getitem__") ht.typeIs Uc
  (Vl Uc ht.typeIs entry_tuple_getitem ?_ (Uaw _ _)))
 show wpAny _ _ (Tan (.ref t) >>= _) _ _ s
 refine Va (Ubz ht ?_)
 refine Va (Uay hTs ?_)
 rw [if_pos (by decide)]
 refine Va (Zhi hs pk ?_)
 show wpAny _ _ (if (((items.size : Int) - 1 == 0 && (-1 : Int) == 1 && items.size == items.size)) = true then _ else _) _ _ s
 have hno : ¬ ((((items.size : Int) - 1 == 0 && (-1 : Int) == 1 && items.size == items.size)) = true) := by simp
 rw [if_neg hno, Zu1]
 first
  | exact Va (m := Ug _) (Vi (Vc ⟨_, rfl, Vc h⟩) htake)
  | exact Va (m := Ug _) (Vi (Va (Vc (Vc ⟨_, rfl, Vc h⟩))) htake)
  | exact Va (Va (m := Ug _) (Vi (Vc (Vc ⟨_, rfl, Vc h⟩)) htake))
  | exact Va (Va (m := Ug _) (Vi (Vc ⟨_, rfl, Vc h⟩) htake))
end
end HT
namespace DL
open PySem PySem.Spec PyProof.Rows L2
variable {X : Cx}
section
variable {a b c : Vq} {pos : Pos}
nonrec def eCh (g g' : F2) (fa fb fc : EF) : EF := fun σ H => (fa σ H).bind fun p => (fb σ p.2).bind fun q => (g p.1 q.1 q.2).bind fun z => (blD z.1).bind fun k => if k = true then (fc σ z.2).bind fun w => g' q.1 w.1 w.2 else some (.bl false, z.2)
theorem Zow {fa fb fc : EF} {g g' : F2} {σ : L2.St} {H : Hp} {Q : VK} {K : Xa} (h : rdE K (eCh g g' fa fb fc) σ H Q) : Zse (rd2 K g) (rd2 K g') (rdE K fa) (rdE K fb) (rdE K fc) σ H Q := by
 obtain ⟨ι, σd, Hd, d, Hd', s, hr, e, q⟩ := h
 obtain ⟨⟨x, H1⟩, e1, e⟩ := Zo e
 obtain ⟨⟨y, H2⟩, e2, e⟩ := Zo e
 obtain ⟨⟨z, H3⟩, e3, e⟩ := Zo e
 obtain ⟨k, e4, e⟩ := Zo e
 refine ⟨ι, σd, Hd, x, H1, s, hr, e1, fun v1 H1' ι1 l1 h1 r1 => ⟨ι1, σd, H1, y, H2, s.mono l1, h1, e2, fun v2 H2' ι2 l2 h2 r2 => ⟨ι2, x, y, H2, z, H3, h2, r1.mono l2, r2, e3, fun v3 H3' ι3 l3 h3 r3 => ⟨k, Zie e4 r3, ?_⟩⟩⟩⟩
 cases k with
 | true =>
  rw [if_pos rfl] at e ⊢
  obtain ⟨⟨u, H4⟩, e5, e⟩ := Zo e
  exact ⟨ι3, σd, H3, u, H4, s.mono ((l1.trans l2).trans l3), h3, e5, fun v4 H4' ι4 l4 h4 r4 => ⟨ι4, y, u, H4, d, Hd', h4, r2.mono (l3.trans l4), r4, e, fun v H' ι' l h r => q v H' ι' ((((l1.trans l2).trans l3).trans l4).trans l) h r⟩⟩
 | false =>
  rw [if_neg (by simp)] at e ⊢
  obtain ⟨rfl, rfl⟩ := Wba.inj (Waa.inj e)
  exact q _ H3' ι3 ((l1.trans l2).trans l3) h3 (by simp)
theorem Zir {op op' : CmpOp} {g g' : F2} {fa fb fc : EF} (ho : OpF X (compareOp op) g) (ho' : OpF X (compareOp op') g') (ha : PEf X a fa) (hb : PEf X b fb) (hc : PEf X c fc)
  (hm : lastMarks [op, op'] [b, c] = false) : PEf X (.Compare a [op, op'] [b, c] pos) (eCh g g' fa fb fc) :=
 PEi (Zul ho ho' ha hb hc hm) fun _ _ _ h => Zow h
theorem Zsj {op op' : CmpOp} {g g' : F2} {fa fb fc : EF} (ho : OpF X (compareOp op) g) (ho' : OpF X (compareOp op') g') (ha : PEf X a fa) (hb : PEf X b fb) (hc : PEf X c fc)
  (hm : lastMarks [op, op'] [b, c] = false) : PTf X (.Compare a [op, op'] [b, c] pos) (tOf (eCh g g' fa fb fc)) := by
 refine PTi (Zut ho ho' ha hb hc hm) fun σ H Q zz => ?_
 obtain ⟨ι, σd, Hd, bb, Hd', s, hr, e, q⟩ := zz
 obtain ⟨⟨x, H1⟩, e1, e⟩ := Zo e
 obtain ⟨b', eb, e⟩ := Zm e
 cases e
 exact Zow ⟨ι, σd, Hd, x, H1, s, hr, e1, fun v H' ι' l h r => ⟨bb, Zie eb r, q H' ι' l h⟩⟩
end
nonrec def revD (x : D) (H : HD) : Option (D × HD) := match x with
 | .tup xs => mkT xs.reverse H
 | _ => none
nonrec def eRv (fe : EF) : EF := fun σ H => (fe σ H).bind fun p => revD p.1 p.2
theorem Zsf {e st : Vq} {fe f : EF} {pos p2 : Pos} (he : PEf X e fe) (hst : PEf X st f) (hf : ∀ σ H, f σ H = some (.int (-1), H)) : PEf X (.Subscript e (.Slice none none (some st) p2) pos) (eRv fe) := by
 intro pins s σ H Q I h
 obtain ⟨ι, σd, Hd, d, Hd', sr, hr, e0, q⟩ := h
 obtain ⟨⟨x, H1⟩, ex, e0⟩ := Zo e0
 let P1 : VK := fun v1 H1' => ∃ ι1, Le X.K H ι H1' ι1 ∧ HRep X.K H1' ι1 H1 ∧ Rep X.K H1' ι1 x v1
 refine Subscript_ (thn (he pins s σ H P1 I ⟨ι, σd, Hd, x, H1, sr, hr, ex, fun v1 H1' ι1 l1 h1 r1 => ⟨ι1, l1, h1, r1⟩⟩) fun v s1 zz => ?_)
 obtain ⟨xv, H1', I1, rx, ι1, l1, h1, r1⟩ := zz
 let P2 : Option Int -> Hp -> Prop := fun o H2' => o = some (-1) ∧ ∃ ι2, Le X.K H ι H2' ι2 ∧ HRep X.K H2' ι2 H1 ∧ Rep X.K H2' ι2 x xv
 have hp : rdO X.K (Zbh f) σ H1' P2 := ⟨ι1, σd, H1, some (-1), H1, sr.mono l1, h1, by unfold Zbh; rw [hf]; rfl, fun H2' ι2 l2 h2 => ⟨rfl, ι2, l1.trans l2, h2, r1.mono l2⟩⟩
 refine wpAny_Slice ?_
 rw [Ubx]
 refine Vc ?_
 refine Vc ?_
 refine thn (Zcu hst pins s1 σ H1' P2 I1 hp) fun vk s3 zz => ?_
 obtain ⟨o, H3, I3, pk, eo, ι3, l3, h3, r3⟩ := zz
 subst eo
 have I4 : Inv X pins σ H3 { s3 with heap := s3.heap.push { cls := .type "slice", data := .fields #[.none, .none, vk] } } := I3.kept (t' := s3.toks) fun b ob q => Xb _ q
 cases x <;> simp only [revD] at e0 <;> try cases e0
 rename_i xs
 obtain ⟨a, vs, rfl, h, P⟩ := Zbj.mp r3
 obtain ⟨its, rv, ht, hz⟩ := I4.tuple h
 cases rx
 obtain ⟨k1, k2⟩ := Zgw h3 (Prd.reverse P) e0 (fun v H' ι' l h r => q v H' ι' (l3.trans l) h r)
 have hlen : its.toArray.size = vs.length := by rw [Xi]; exact rv.length.symm
 have hg : wpAny (model X.prog X.w) X.A (getItem (.ref a) (.ref s3.heap.objs.size)) (EP X pins σ Q) X.xe { s3 with heap := s3.heap.push { cls := .type "slice", data := .fields #[.none, .none, vk] } } := by
  refine HT.getItem_tuple_rev ht (Wfl.new ..) pk ?_ (by rw [hlen]; exact hz)
  refine ⟨.ref _, _, I4.laid (t' := s3.toks) (o := .tup vs.reverse) (fun b ob q => Xb _ q) (Xc _) ?_, rfl, k2 _ (I4.hok.fresh (Xc _))⟩
  exact ⟨k1, _, by simpa using rv.reverse, Zjd.new _ _⟩
 show wpAny (model X.prog X.w) X.A (subscriptTail e (.Slice none none (some st) p2) (.ref a) (.ref s3.heap.objs.size)) (EP X pins σ Q) X.xe { s3 with heap := s3.heap.push { cls := .type "slice", data := .fields #[.none, .none, vk] } }
 exact tail_any (ops := [.ref a, .ref s3.heap.objs.size]) ht.typeIs Uc.lookup hg (by with_unfolding_all rfl)
variable {X : Cx}
section
variable {prog : Vf} {w : Vk} {A : Vo} {E : Vb -> Vd -> Prop} {s : Vd}
theorem Zt6 {d : Ve} {ob : Obj} {es : Array Uab} {ep : Nat} {Q : Vb -> Vd -> Prop} (h0 : (d == sysModules) = false) (g1 : s.heap.get? d = some ob) (g2 : ob.ExactDict) (g3 : ob.data = .dict es ep)
  (q : Q (.ref s.heap.objs.size) { s with heap := s.heap.push { cls := .type "dict_keyiterator", data := .fields #[.ref d, .int 0 0, .int es.size 0, .int ep 0] } }) : wpAny (model prog w) A (pyIter (.ref d)) Q E s := by
 have ty : s.TypeIs (.ref d) "dict" := ⟨ob, g1, g2.1⟩
 refine wpAny_pyIter_slot ty F.slot_dict_iter (Vl F.slot_dict_iter ty F.entry_dict_iter ?_ (F.args_dict_iter_1 _))
 unfold Builtin.«dict.__iter__» Builtin.Dict.dictSlotNone
 refine Va (Va (wpAny_notOrdered_dict ty (Vc ?_)))
 show wpAny _ _ (Tbx d >>= _) _ _ s
 unfold Tbx
 rw [if_neg (by rw [h0]; decide)]
 refine Va (Vc (Va (Ubd g1 g3 (Va (Ubp g1 g3 (Va (Vi (Vc ?_))))))))
 exact ⟨_, rfl, "dict_keyiterator", _, ⟨_, Xf _ rfl, rfl⟩, Uq.lookup, by simpa [rawInt] using q⟩
theorem Zxw {d it : Ve} {ob : Obj} {es : Array Uab} {i ep : Nat} {Q : Option Vb -> Vd -> Prop} (hit : s.heap.IsKeyIter it d i es.size ep) (g1 : s.heap.get? d = some ob) (g3 : ob.data = .dict es ep) (lt : i < es.size)
  (q : ∀ h2, h2.IsKeyIter it d (i + 1) es.size ep -> Xz it s.heap h2 -> Q (some es[i].key) { s with heap := h2 }) : wpAny (model prog w) A (pyNext (.ref it)) Q E s := by
 have ty := hit.typeIs
 obtain ⟨oi, i1, i2, i3⟩ := id hit
 have own : Builtin.Dict_items.ownsTuple "dict_keyiterator" = false := by decide
 unfold pyNext
 refine Va (Vz (Vg (name := Ub "__next__") ty Uq (Vl Uq ty Tbd ?_ (Taz _))))
 refine Va (Vc (Va (Va ?_)))
 refine Va (Vx ty (Vc (Va (wpAny_fieldsOf i1 i3 ?_))))
 simp only [own, Wbb, if_false]
 show wpAny _ _ (if (Ud d == Ur) = true then _ else _) _ _ s
 have nn : ¬ ((Ud d == Ur) = true) := Wai
 rw [if_neg nn]
 refine Va (Vc (Va (Ubd g1 g3 ?_)))
 rw [if_neg (by simp)]
 refine Va (Vc (Va (Ubp g1 g3 ?_)))
 rw [if_neg (by simp)]
 refine Vc ?_
 have neg : ¬ ((i : Int) < 0) := by omega
 simp only [neg, if_false, Xy, Wcc lt]
 refine Va (Va (Vx ty (Vc (Va (Ubq ty ?_)))))
 show wpAny _ _ (setField (.ref it) 1 (rawInt ((i : Int) + 1)) >>= _) _ _ s
 let h2 := s.heap.update it (Taf (·.setIfInBounds 1 (rawInt ((i : Int) + 1))))
 have it2 : h2.IsKeyIter it d (i + 1) es.size ep :=
  ⟨_, Wbg _ i1 (Tal (Taa i3 _)), (Tbq ..).trans i2, by rw [Taa i3]; simp [rawInt]⟩
 refine Va (Uaf i1 i3 (by simp) (Va (Vr (Va (Ubq (s := { s with heap := h2 }) it2.typeIs ?_)))))
 show wpAny _ _ (pure es[i].key) _ _ _
 exact Vc (Vc ⟨_, rfl, Vc (q h2 it2 (Xz.update ..))⟩)
theorem Zux {d it : Ve} {ob : Obj} {es : Array Uab} {i ep : Nat} {Q : Option Vb -> Vd -> Prop} (hh : A.handled = none) (hit : s.heap.IsKeyIter it d i es.size ep) (g1 : s.heap.get? d = some ob) (g3 : ob.data = .dict es ep) (ge : es.size ≤ i)
  (q : ∀ h2, Wdh it s.heap h2 -> Q none { s with heap := h2 }) : wpAny (model prog w) A (pyNext (.ref it)) Q E s := by
 have ty := hit.typeIs
 obtain ⟨oi, i1, i2, i3⟩ := id hit
 have own : Builtin.Dict_items.ownsTuple "dict_keyiterator" = false := by decide
 unfold pyNext
 refine Va (Vz (Vg (name := Ub "__next__") ty Uq (Vl Uq ty Tbd ?_ (Taz _))))
 refine Va (Vc (Va (Va ?_)))
 refine Va (Vx ty (Vc (Va (wpAny_fieldsOf i1 i3 ?_))))
 simp only [own, Wbb, if_false]
 show wpAny _ _ (if (Ud d == Ur) = true then _ else _) _ _ s
 have nn : ¬ ((Ud d == Ur) = true) := Wai
 rw [if_neg nn]
 refine Va (Vc (Va (Ubd g1 g3 ?_)))
 rw [if_neg (by simp)]
 refine Va (Vc (Va (Ubp g1 g3 ?_)))
 rw [if_neg (by simp)]
 refine Vc ?_
 have neg : ¬ ((i : Int) < 0) := by omega
 simp only [neg, if_false, Xy, Wcs ge]
 refine Va (Va (Vx ty (Vc ?_)))
 show wpAny _ _ (setField (.ref it) 0 .none >>= _) _ _ s
 refine Va (Uaf i1 i3 (by simp) ?_)
 show wpAny _ _ (newExc (.type "StopIteration") [] >>= _) _ _ _
 simp only [newExc, newTuple]
 refine Va (Va (Vi (Va (m := firstArgMember _ _) (wpAny_of_eq (a := Ur) (by first | rfl | (simp only [firstArgMember]; rfl)) (Vi ?_ (by size_fits)))) (by size_fits)))
 simp only [raiseNew]
 refine Va (wpAny_handled ?_)
 have hh1 : A.in1.handled = none := hh
 rw [hh1]
 refine Va (Vc (wpAny_throw ?_))
 refine Va (Ubh (T := "StopIteration") (b := true) (by exact ⟨_, Xf _ rfl, rfl⟩) Ubs ?_)
 exact Vc (q _ (((Xz.update ..).extBut.push _).push _))
end
variable {X : Cx} {tg : Vq}
variable {X : Cx}
variable {X : Cx} {tg : Vq}
nonrec def sWh (t : TF) (b : SF) : Nat -> SF
 | 0 => fun _ _ => none
 | n + 1 => fun σ H => (t σ H).bind fun p => if p.1 = true then (b σ p.2).bind fun q => match q.1 with
   | .nx => sWh t b n q.2.1 q.2.2
   | .ct => sWh t b n q.2.1 q.2.2
   | .bk => some (.nx, q.2.1, q.2.2)
   | .rt d => some (.rt d, q.2.1, q.2.2)
  else some (.nx, σ, p.2)
section
variable {X : Cx} {c : Vq} {pos : Pos}
theorem Zro {body : List Vw} {t : TF} {b : SF} {n : Nat} (hp : Ubb (model X.prog X.w) X.A X.env X.xe) (hc : PTf X c t) (hb : Zmv X body b) : PSf X (.While c body [] pos) (sWh t b n) := by
 refine PSi (Zuk hp hc hb) fun E σ H zz => ?_
 obtain ⟨ι, σd, Hd, fl, σf, Hf, s, hr, e, q⟩ := zz
 refine ⟨fun m σ' H' => ∃ ι' σd' Hd', Le X.K H ι H' ι' ∧ SRep X.K H' ι' σ' σd' ∧ HRep X.K H' ι' Hd' ∧ sWh t b m σd' Hd' = some (fl, σf, Hf), ⟨n, ι, σd, Hd, Le.refl, s, hr, e⟩, ?_⟩
 rintro m σ1 H1 ⟨ι1, σd1, Hd1, l1, s1, h1, e1⟩
 cases m with
 | zero => cases e1
 | succ m =>
  rw [sWh] at e1
  obtain ⟨⟨x, H2⟩, e2, e1⟩ := Zo e1
  refine ⟨ι1, σd1, Hd1, x, H2, s1, h1, e2, fun H3 ι3 l3 h3 => ?_⟩
  cases x with
  | true =>
   rw [if_pos rfl]
   dsimp only at e1
   rw [if_pos rfl] at e1
   obtain ⟨⟨f4, σ4, H4⟩, e4, e1⟩ := Zo e1
   refine ⟨fun σ' H' => ∃ ι' σd' Hd', Le X.K H ι H' ι' ∧ SRep X.K H' ι' σ' σd' ∧ HRep X.K H' ι' Hd' ∧ sWh t b m σd' Hd' = some (fl, σf, Hf), fun σ' H' p => ⟨m, Nat.lt_succ_self m, p⟩, ?_⟩
   refine ⟨ι3, σd1, H2, f4, σ4, H4, s1.mono l3, h3, e4, fun σ6 H6 ι6 l6 h6 s6 => ?_⟩
   have L : Le X.K H ι H6 ι6 := (l1.trans l3).trans l6
   cases f4 with
   | nx => exact ⟨ι6, σ4, H4, L, s6, h6, e1⟩
   | ct => exact ⟨ι6, σ4, H4, L, s6, h6, e1⟩
   | bk => cases e1; exact q σ6 H6 ι6 L h6 s6
   | rt d => cases e1; exact q σ6 H6 ι6 L h6 s6
  | false =>
   rw [if_neg (by simp)]
   dsimp only at e1
   rw [if_neg (by simp)] at e1
   cases e1
   exact q σ1 H3 ι3 (l1.trans l3) h3 (s1.mono l3)
end
nonrec def Zj2 (h : Vu) (L : Ve) : List (Ve × Obj) := (Wcw h.objs.size).filterMap fun a => if a = L then none else (h.get? a).map fun o => (a, o)
theorem Zlg {h : Vu} {L b : Ve} {o : Obj} (hb : b ≠ L) (e : h.get? b = some o) : (b, o) ∈ Zj2 h L := by
 refine Wbx.mpr ⟨b, War.mpr (Xe e), ?_⟩
 rw [if_neg hb, e]; rfl
theorem Zdz {h : Vu} {L : Ve} {p : Ve × Obj} (hp : p ∈ Zj2 h L) : h.get? p.1 = some p.2 ∧ p.1 ≠ L := by
 obtain ⟨a, _, e⟩ := Wbx.mp hp
 split at e
 ·cases e
 ·rename_i ne
  obtain ⟨o, e1, rfl⟩ := Zm e
  exact ⟨e1, ne⟩
theorem Zgy (b : Ve) : ({} : Vu).get? b = none := by
 cases e : ({} : Vu).get? b with
 | none => rfl
 | some o => exact absurd (Xe e) (Nat.not_lt_zero _)
nonrec def Zgm (i : Int) : Int := if i < 0 then -i else i
section
variable {prog : Vf} {w : Vk} {A : Vo} {E : Vb -> Vd -> Prop} {s : Vd}
theorem Zto {l L : Ve} {vs : List Vb} {ns : List Int} {m : Str -> Option Vb} {Q : Vb -> Vd -> Prop} (hn : s.heap.Ns L m) (hI : Uak vs ns) (h64 : vs.length < 64)
  (hcol : ∀ R : List Vb → Vd → Prop, R vs { s with heap := (s.heap.push (seqObj "list" #[] 0)).update s.heap.objs.size (Tbf (· ++ vs.toArray)) } → wpAny (model prog w) A.in1 (collect (.ref l)) R E s)
  (h : ∀ h' tk out c, h'.Ns L m → (∀ b o, b ≠ L → s.heap.get? b = some o → h'.get? b = some o) → h'.get? (s.heap.objs.size + 1) = some (seqObj "list" out c) → KskOut false (ns.map Zgm) vs out.toList → Q (.ref (s.heap.objs.size + 1)) { s with heap := h', toks := tk }) :
  wpAny (model prog w) A (call (.builtin "sorted") [.ref l] [(Ub "key", .builtin "abs")]) Q E s := by
 have sl : vs.length ≤ sizeLine := by rw [Uae]; omega
 have le : ns.length = vs.length := hI.length.symm
 have lt := hn.lt
 let h1 : Vu := (s.heap.push (seqObj "list" #[] 0)).update s.heap.objs.size (Tbf (· ++ vs.toArray))
 have z1 : h1.objs.size = s.heap.objs.size + 1 := (Heap.size_update ..).trans (size_push' ..)
 have at2 : (h1.push (seqObj "list" vs.toArray 0)).get? (s.heap.objs.size + 1) = some (seqObj "list" vs.toArray 0) := by rw [← z1]; exact Xf _ rfl
 have kp : ∀ b o, s.heap.get? b = some o → (h1.push (seqObj "list" vs.toArray 0)).get? b = some o := fun b o q => by
  have hb : b < s.heap.objs.size := Xe q
  refine Xb _ ?_
  show Heap.get? (Heap.update _ _ _) b = some o
  rw [Heap.get?_update_ne _ _ _ _ (Xo hb)]
  exact Xb _ q
 have F0 : Fr {} L s.heap m := ⟨hn, fun b o e => absurd ((Zgy b).symm.trans e) (by simp), Wak _⟩
 have N0 : News {} L s.heap (Zj2 s.heap L) := fun p hp => ⟨(Zdz hp).1, (Zdz hp).2, Zgy _⟩
 refine Ubj kind_sorted plain_sorted entry_sorted (ksk_s1 _ _) ?_
 unfold Builtin.«sorted»
 refine Va (m := checkCount "sorted" 1 1 _) (Vc (Va (hcol _ (Va (Ubf ?_ sl)))))
 show wpAny _ _ _ _ _ { s with heap := h1.push (seqObj "list" vs.toArray 0) }
 rw [show ((s.heap.push (seqObj "list" #[] 0)).update s.heap.objs.size (Tbf (· ++ vs.toArray))).objs.size = s.heap.objs.size + 1 from z1]
 refine Va (Vr (wpAny_call_entry_kw slot_list_sort ⟨_, at2, rfl⟩ entry_list_sort ?body (ksk_l1 _ _)))
 case body =>
  show wpAny (model prog w) A.in1.in1 (Builtin.«list.sort» ⟨[.ref (s.heap.objs.size + 1)], [(Ub "key", .builtin "abs")]⟩) _ _ _
  rw [ksk_t4]
  refine ksk_sort (s := { s with heap := h1.push (seqObj "list" vs.toArray 0) }) (kz := ns.map Zgm) (news := Zj2 s.heap L) (F0.kept kp) (N0.grown kp) at2 (Wbt (Wcz lt)) (Zgy _) (fun p hp => Xo (Wcz (Xe (Zdz hp).1)))
   (by rw [Xk]; exact le) h64 (fun i v k hv hk hh tk own F N => ?_) fun h' tk out c F' N' K' => ⟨_, rfl, ?_⟩
  ·obtain ⟨n, t, rfl, e⟩ := hI.at i v hv
   rw [Waf, e] at hk
   cases hk
   exact Ucb fun u tk' => KskEnd.intro F N fun p hp => hp
  ·refine Vc ⟨_, rfl, h h' tk out c F'.ns (fun b o hb e => ?_) ?_ K'⟩
   ·exact (N' _ (Xw _ (Zlg hb e))).1
   ·exact (N' _ (Wav ..)).1
theorem Zm4 {l : Ve} {vs : List Vb} {R : List Vb -> Vd -> Prop} (ht : Uce s.heap l vs.toArray) (hz : vs.length ≤ sizeLine)
  (h : R vs { s with heap := (s.heap.push (seqObj "list" #[] 0)).update s.heap.objs.size (Tbf (· ++ vs.toArray)) }) : wpAny (model prog w) A (collect (.ref l)) R E s := by
 obtain ⟨o, ho, hc, n, hd⟩ := ht
 have ho2 : (s.heap.push (seqObj "list" #[] 0)).get? l = some o := Xb _ ho
 have hN : (s.heap.push (seqObj "list" #[] 0)).get? s.heap.objs.size = some (seqObj "list" #[] 0) := Xf _ rfl
 unfold collect
 refine Va (wpAny_runValue (Uan entry_proto_collect' (show wpAny _ _ (do again (.builtin "list.__iadd__" ⟨[← newList [], .ref l], []⟩)) _ _ s from Va (Ubf (Vc ⟨Taj _ (by decide +kernel), Uan entry_list_iadd' ?_⟩)))))
 show wpAny _ _ (Uw (.ref s.heap.objs.size) (.ref l) (.ref s.heap.objs.size)) _ _ { s with heap := _ }
 unfold Uw
 refine Va (Uay (T := "tuple") ⟨o, ho2, hc⟩ ?_)
 rw [if_pos (by simp)]
 refine Va (listItems_at ho2 hd (Va (listItems_at (xs := #[]) (n := 0) hN rfl ?_)))
 rw [if_neg (by simp)]
 refine Va (listUpdate_at (xs := #[]) (n := 0) hN rfl (Vc ?_) (Wak _) (by show ((#[] : Array Vb) ++ vs.toArray).size ≤ sizeLine + 1; rw [Wfa, Xi]; exact Xp (by simp) (Nat.le_succ_of_le hz)))
 refine Va (wpAny_load (get?_update_seq hN _) ?_)
 show wpAny _ _ (pure (((#[] : Array Vb) ++ vs.toArray).toList)) R E _
 rw [Weu, List.toList_toArray]
 exact Vc h
end
theorem Zww {vs : List Vb} {ns : List Int} (h : Uak vs ns) : ∀ p ∈ (ns.map Zgm).zip vs, ∃ n t, p = (Zgm n, .int n t) := by
 induction h with
 | nil => intro p hp; simp at hp
 | cons n t _ ih =>
  intro p hp
  rw [Xr, Wev] at hp
  rcases Xn.mp hp with rfl | hp
  ·exact ⟨n, t, rfl⟩
  ·exact ih p hp
nonrec def Zzm (p : Int × Vb) : Int := match p.2 with
 | .int n _ => n
 | _ => 0
theorem Zym {vs : List Vb} {ns : List Int} (h : Uak vs ns) : ((ns.map Zgm).zip vs).map Zzm = ns := by
 induction h with
 | nil => rfl
 | cons n t _ ih => rw [Xr, Wev, Xr, ih]; rfl
theorem Zos : ∀ ps : List (Int × Vb), (∀ p ∈ ps, ∃ n t, p = (Zgm n, .int n t)) -> Uak (ps.map Prod.snd) (ps.map Zzm) ∧ (ps.map Zzm).map Zgm = ps.map Prod.fst
 | [], _ => ⟨.nil, rfl⟩
 | p :: ps, h => by
  obtain ⟨n, t, rfl⟩ := h p (by simp)
  obtain ⟨a, b⟩ := Zos ps fun q hq => h q (by simp [hq])
  exact ⟨.cons n t a, by rw [Xr, Xr, Xr, b]; rfl⟩
nonrec def Zco (ns : List Int) : List Int := ns.mergeSort fun a b => decide (Zgm a ≤ Zgm b)
theorem Zcc (ns : List Int) : (Zco ns).Perm ns := List.mergeSort_perm ..
theorem Znx (ns : List Int) : (Zco ns).Pairwise fun a b => Zgm a ≤ Zgm b := by
 have h := List.pairwise_mergeSort (le := fun a b : Int => decide (Zgm a ≤ Zgm b)) (by intro a b c h1 h2; simp at *; omega) (by intro a b; simp; omega) ns
 exact h.imp (by intro a b h; simpa using h)
theorem Zw9 {x y : List Int} (h : x.map Zgm = y.map Zgm) (hi : ∀ a ∈ x, ∀ b ∈ y, Zgm a = Zgm b -> a = b) : x = y := by
 induction x generalizing y with
 | nil => cases y with
  | nil => rfl
  | cons _ _ => cases h
 | cons a x ih => cases y with
  | nil => cases h
  | cons b y =>
   rw [Xr, Xr] at h
   obtain ⟨h1, h2⟩ := Way.inj h
   rw [hi a (by simp) b (by simp) h1, ih h2 fun c hc d hd => hi c (by simp [hc]) d (by simp [hd])]
theorem Zra {ns : List Int} (h : (ns.map Zgm).Nodup) : ∀ a ∈ ns, ∀ b ∈ ns, Zgm a = Zgm b -> a = b := by
 induction ns with
 | nil => intro a ha; cases ha
 | cons n r ih =>
  rw [Xr, Wbf] at h
  intro a ha b hb e
  rcases Xn.mp ha with h1 | h1 <;> rcases Xn.mp hb with h2 | h2
  ·rw [h1, h2]
  ·exact absurd (Xj.mpr ⟨b, h2, by rw [← e, h1]⟩) h.1
  ·exact absurd (Xj.mpr ⟨a, h1, by rw [e, h2]⟩) h.1
  ·exact ih h.2 a h1 b h2 e
theorem Zwa {vs out : List Vb} {ns : List Int} (h : Uak vs ns) (hn : (ns.map Zgm).Nodup) (k : KskOut false (ns.map Zgm) vs out) : Uak out (Zco ns) := by
 obtain ⟨ps, hp, rfl, hw⟩ := k
 obtain ⟨a, b⟩ := Zos ps fun p hp' => Zww h p (hp.mem_iff.mp hp')
 have c : (ps.map Zzm).Perm ns := by rw [← Zym h]; exact hp.map Zzm
 have d : ps.map Zzm = Zco ns := by
  refine Zw9 (Zl7 ((c.map Zgm).trans ((Zcc ns).map Zgm).symm) ?_ ?_) fun x hx y hy e => Zra hn x (c.mem_iff.mp hx) y ((Zcc ns).mem_iff.mp hy) e
  ·rw [b, Wdp]; simpa using hw
  ·rw [Wdp]; exact Znx ns
 rw [← d]; exact a
theorem Zlf {X : Cx} {pins : List (Ve × Obj)} {σ : L2.St} {H : Hp} {s : Vd} {h' : Vu} {a : Ve} {o : HO} {t' : Nat} (I : Inv X pins σ H s) (k : ∀ b u, b ≠ X.env.locals -> s.heap.get? b = some u -> h'.get? b = some u)
  (ns : ∀ m, s.heap.Ns X.env.locals m -> h'.Ns X.env.locals m) (hp : s.heap.objs.size ≤ a) (new : Zdq X.prog X.w (upd H a o) h' a o) : Inv X pins σ (upd H a o) { s with heap := h', toks := t' } := by
 have hn := I.hok.fresh hp
 have there : ∀ b u, s.heap.get? b = some u -> ∃ o', h'.get? b = some o' := fun b u e => by
  by_cases hb : b = X.env.locals
  ·subst hb
   obtain ⟨m, hm, _⟩ := I.loc
   obtain ⟨o, _, _, ho, _⟩ := ns m hm
   exact ⟨o, ho⟩
  ·exact ⟨u, k b u hb e⟩
 refine I.step (g' := s.gens) (d' := s.drawn) (ch := []) (fun _ z => nomatch z) (fun b u hb _ _ e _ => k b u hb e) (fun b u hb _ _ e _ => ⟨u.slots, k b u hb e⟩) (fun b u _ e n => ?_) (fun b u _ e => there b u e) (fun b xs q => ?_) (fun b u xs q => ?_) (fun b ps q => ⟨#[], ?_⟩) ns (fun b u e => ?_) I.bare
 ·rw [Zai (Xo (Xl (Xe e) hp))]; exact n
 ·rw [Zai (Zak q hn)]; exact q
 ·rw [Zai (Zak q hn)]; exact q
 ·rw [Zai (Zak q hn), q]; simp
 ·by_cases hb : b = a
  ·subst hb; rw [upd_same] at e; cases e; exact new
  ·rw [Zai hb] at e
   have nL : ∀ c, (c = b ∨ H c = some (.own b)) -> c ≠ X.env.locals := fun c hc z => by
    subst z
    have := I.free
    rcases hc with rfl | hc
    ·rw [this] at e; cases e
    ·rw [this] at hc; cases hc
   exact (I.hok b u e).stay (fun c v hc q => k c v (nL c hc) q) (fun c q => by rw [Zai (Zak q hn)]; exact q) fun c xs q => by rw [Zai (Zak q hn)]; exact q
nonrec def Zjf : FF := fun ds H => match ds with
 | [d] => (Zmh d H).bind fun xs => (Zgu xs).bind fun ns => if ns.length < 64 ∧ (ns.map Zgm).Nodup then some (.ref H.length, H ++ [.lst ((Zco ns).map .int)]) else none
 | _ => none
theorem Zlu {X : Cx} {a : Vq} {f : AF} {p p2 kp pos : Pos} (hg : Gl X "sorted") (hm : X.mg "sorted" = none) (hg2 : Gl X "abs") (hm2 : X.mg "abs" = none) (ha : PAf X [a] f) (hs : starEach [a] X.env = [(false, eval a X.env)] := by rfl) :
  PEf X (.Call (.Name "sorted" p) [a] [⟨some "key", .Name "abs" p2, kp⟩] pos) (eCB Zjf f) := by
 rintro pins s σ H Q I ⟨ι, σd, Hd, d, Hd', sr, hr, e, q⟩
 obtain ⟨⟨ds, H1⟩, e1, e⟩ := Zo e
 dsimp only at e
 unfold Zjf at e
 split at e
 ·rename_i d0
  obtain ⟨ys, e2, e⟩ := Zo e
  obtain ⟨ns, e3, e⟩ := Zo e
  split at e
  ·rename_i hc
   show wpAny _ _ (do callWith pos (← eval (.Name "sorted" p) X.env) [] (backTo pos (starEach [a] X.env)) (backToKw pos (keywordEach [⟨some "key", .Name "abs" p2, kp⟩] X.env))) _ _ _
   refine Va (Zfh I hg hm Zlp (callWith_builtin_kwB (by rw [hs]; rfl) rfl ?_))
   have hA := ha pos pins s σ H (fun vs H' => ∃ ι', Le X.K H ι H' ι' ∧ HRep X.K H' ι' H1 ∧ Vh (Rep X.K H' ι') [d0] vs) I ⟨ι, σd, Hd, _, _, sr, hr, e1, fun vs H' ι' l h P => ⟨ι', l, h, P⟩⟩
   rw [hs] at hA ⊢
   refine evalArgs_kwB rfl (thn hA fun us s1 ⟨vs, H2, I2, r2, ι2, l2, h2, P2⟩ => kws_cons (Zfh I2 hg2 hm2 Zrp (kws_nil ?_)))
   obtain ⟨v, rfl, r⟩ := Zl0 P2
   obtain ⟨u, rfl, ru⟩ := Zhl r2
   obtain ⟨ad, ws, rfl, hq, P3⟩ := Zlr h2 r e2
   cases ru
   have ev := Zk4 e3 P3
   subst ev
   show wpAny _ _ (call (.builtin "sorted") [.ref ad] [(Ub "key", .builtin "abs")]) _ _ _
   obtain ⟨m, hn, _⟩ := I2.loc
   have hits : ∃ its : List Vb, Zbp (ns.map V.int) its ∧ (∀ R : List Vb → Vd → Prop, R its { s1 with heap := (s1.heap.push (seqObj "list" #[] 0)).update s1.heap.objs.size (Tbf (· ++ its.toArray)) } → wpAny (model X.prog X.w) X.A.in1 (collect (.ref ad)) R X.xe s1) := by
    rcases hq with hq | hq
    ·obtain ⟨its, ri, pl, hz⟩ := I2.list hq
     exact ⟨its, ri, fun R hR => collect_list pl.isList hR (by rw [← ri.length]; exact hz)⟩
    ·obtain ⟨its, ri, pl, hz⟩ := I2.tuple hq
     exact ⟨its, ri, fun R hR => Zm4 pl (by rw [← ri.length]; exact hz) hR⟩
   obtain ⟨its, ri, hcol⟩ := hits
   have il : its.length = ns.length := by rw [← ri.length, Xk]
   refine Zto hn (Zjt ri) (by omega) hcol fun h' tk out c hn' kk hat K' => ?_
   have hO := Zwa (Zjt ri) hc.2 K'
   have hl : ((Zco ns).map V.int).length ≤ sizeLine := by
    rw [Xk, (Zcc ns).length_eq]
    have : sizeLine = 16777216 := Uae
    omega
   have hp0 : H2 (s1.heap.objs.size + 1) = none := I2.hok.fresh (Wci _)
   refine ⟨.ref (s1.heap.objs.size + 1), _, Zlf (o := .lst ((Zco ns).map V.int)) I2 kk (fun m' hm' => by rw [hm'.eq_nsMap, ← hn.eq_nsMap]; exact hn') (Wci _) ⟨hl, out.toList, c, Zl5 hO, by simpa using hat⟩, rfl, ?_⟩
   have hz2 : ((Zco ns).map D.int).length ≤ sizeLine := by simpa using hl
   exact (Zeq h2 (Zml (Zco ns)) (show mkL ((Zco ns).map D.int) H1 = some (d, Hd') by unfold mkL; rw [if_pos hz2, e]) (fun v H' ι' l h r => q v H' ι' (l2.trans l) h r)).2 _ hp0
  ·cases e
 ·cases e
open Builtin.SmallTypes (nextOf)
def SqI (b : Bool) (h : Vu) (i l : Ve) (n : Nat) : Prop := ∃ o, h.get? i = some o ∧ o.cls = .type (if b then "list_iterator" else "tuple_iterator") ∧ o.data = .fields #[.ref l, .int n 0]
def SqX (b : Bool) (h : Vu) (l : Ve) (xs : Array Vb) : Prop := ∃ o, h.get? l = some o ∧ o.cls = .type (if b then "list" else "tuple") ∧ ∃ n, o.data = .seq xs n
section
variable {prog : Vf} {w : Vk} {A : Vo} {E : Vb -> Vd -> Prop} {s : Vd}
theorem Zyr {b : Bool} {i l : Ve} {n : Nat} {xs : Array Vb} {x : Vb} {Q : Vb -> Vd -> Prop} (hi : SqI b s.heap i l n) (hl : SqX b s.heap l xs) (hx : xs[n]? = some x)
  (hQ : ∀ h', SqI b h' i l (n + 1) -> Xz i s.heap h' -> Q x { s with heap := h' }) : wpAny (model prog w) A (nextOf (.ref i)) Q E s := by
 cases b
 ·exact Zoh hi hl hx hQ
 ·exact wpAny_nextOf_list_item hi hl hx hQ
theorem Zz9 {b : Bool} {i l : Ve} {n : Nat} {xs : Array Vb} {Q : Vb -> Vd -> Prop} (hh : A.handled = none) (hi : SqI b s.heap i l n) (hl : SqX b s.heap l xs) (hx : xs[n]? = none)
  (hE : ∀ h' e, Wdh i s.heap h' → (∃ o, h'.get? e = some o ∧ o.cls = .type "StopIteration") → E (.ref e) { s with heap := h' }) : wpAny (model prog w) A (nextOf (.ref i)) Q E s := by
 cases b
 ·exact Zr3 hh hi hl hx hE
 ·exact wpAny_nextOf_list_end hh hi hl hx hE
variable {z TI TO i1 i2 l1 l2 : Ve} {k1 k2 : Nat} {xs ys : Array Vb} {b1 b2 : Bool}
end
section
variable {X : Cx} {e : Vq} {pos : Pos}
nonrec def Zz6 : SF := fun _ _ => none
theorem Zsu {st : Vw} : PSf X st Zz6 := by
 rintro pins s σ H E I ⟨ι, σd, Hd, fl, σd', Hd', _, _, e, _⟩
 cases e
nonrec def Zuw : D -> Option Int
 | .int i => some i
 | _ => none
nonrec def sAug (g : Int -> Int -> Int) (i : Nat) (f : EF) : SF := fun σ H => ((σ[i]?).join.bind Zuw).bind fun a => (f σ H).bind fun p => (Zuw p.1).map fun b => (.nx, σ.set i (some (.int (g a b))), p.2)
theorem Zjz {d : D} {i : Int} (h : Zuw d = some i) : d = .int i := by
 cases d <;> simp [Zuw] at h
 rw [h]
theorem Zxv {i : Nat} {x : Str} {f : EF} {op : Ubw} {g : Int -> Int -> Int} {pos' : Pos} (ho : PIp X op (ipI g)) (hN : X.N.Nodup) (hi : X.N[i]? = some x) (hx : Loc X.env.scope x) (he : PEf X e f)
  (hf : X.fn x = true ∨ X.env.scope.names.lookup x = some .local := by first | exact .inl rfl | exact .inr rfl | assumption) : PSf X (.AugAssign (.Name x pos') op e pos) (sAug g i f) := by
 refine PSi (Ybw hN hi hx he ho hf) fun E σ H zz => ?_
 obtain ⟨ι, σd, Hd, fl, σd', Hd', s, hr, e, q⟩ := zz
 obtain ⟨a, e0, e⟩ := Zo e
 obtain ⟨d, e1, e2⟩ := Zo e0
 have := Zjz e2
 subst this
 obtain ⟨⟨y, H1⟩, e3, e⟩ := Zo e
 obtain ⟨b, e4, e⟩ := Zm e
 have := Zjz e4
 dsimp only at this e
 subst this
 cases e
 have hv : σd[i]? = some (some (.int a)) := by
  cases hx : σd[i]? with
  | none => rw [hx] at e1; cases e1
  | some o => rw [hx] at e1; exact congrArg some e1
 obtain ⟨v, h1, h2⟩ := s.var i _ hv
 simp at h2
 subst h2
 refine ⟨_, h1, ι, σd, Hd, _, _, s, hr, e3, fun v H' ι' l h r => ?_⟩
 simp at r
 subst r
 refine ⟨a, b, rfl, rfl, q _ H' ι' l h ((s.mono l).set (by simp) i)⟩
end
open Builtin.SmallTypes (nextOf)
section
variable {prog : Vf} {w : Vk} {A : Vo} {E : Vb -> Vd -> Prop} {s : Vd}
theorem Zs2 {j t : Ve} {i : Nat} {its : Array Vb} {x : Vb} {Q : Vb -> Vd -> Prop} (hj : s.heap.IsListIter j t i) (ht : s.heap.IsList t its) (hx : its[i]? = some x)
  (hQ : ∀ h', h'.IsListIter j t (i + 1) -> Xz j s.heap h' -> Q x { s with heap := h' }) : wpAny (model prog w) A (nextOf (.ref j)) Q E s :=
 Zyr (b := true) hj ht hx hQ
theorem Zvb {j t : Ve} {i : Nat} {its : Array Vb} {Q : Vb -> Vd -> Prop} (hh : A.handled = none) (hj : s.heap.IsListIter j t i) (ht : s.heap.IsList t its) (hx : its[i]? = none)
  (hE : ∀ h' e, Wdh j s.heap h' → (∃ o, h'.get? e = some o ∧ o.cls = .type "StopIteration") → E (.ref e) { s with heap := h' }) : wpAny (model prog w) A (nextOf (.ref j)) Q E s :=
 Zz9 (b := true) hh hj ht hx hE
theorem Zpv {e j t : Ve} {i : Nat} {c : Int} {its : Array Vb} {x old : Vb} {Q : Option Vb -> Vd -> Prop} (he : Ual s.heap e j c old) (hj : s.heap.IsListIter j t i) (ht : s.heap.IsList t its) (hx : its[i]? = some x) (hne : e ≠ j)
  (hQ : ∀ h' tk, Ubl h' e j (c + 1) x s.heap.objs.size → h'.IsListIter j t (i + 1) → h'.get? s.heap.objs.size = some { cls := .type "tuple", data := .seq #[.int c tk, x] } → h'.objs.size = s.heap.objs.size + 1 →
   (∀ b o, b ≠ e -> b ≠ j -> s.heap.get? b = some o -> h'.get? b = some o) -> Q (some (.ref s.heap.objs.size)) { s with heap := h', toks := s.toks + 1 }) :
  wpAny (model prog w) A (pyNext (.ref e)) Q E s := by
 have hT : s.TypeIs (.ref e) "enumerate" := ⟨_, he, rfl⟩
 unfold pyNext
 refine Va (Vz (Vg (name := Ub "__next__") hT Uj (Vl Uj hT Tai ?_ (Tae _))))
 obtain ⟨hp, g, d, tk, os⟩ := s
 show wpAny _ _ (field (.ref e) 2 >>= _) _ _ _
 refine Va (Vj he rfl (x := .ref j) rfl (Va (Zs2 hj ht hx fun h1 j1 s1 => ?_)))
 replace s1 : Xz j hp h1 := s1
 have e1 : Ual h1 e j c old := (s1.2 e hne).trans he
 show wpAny _ _ (field (.ref e) 3 >>= _) _ _ ⟨h1, g, d, tk, os⟩
 refine Va (Vj e1 rfl (x := rawInt c) rfl ?_)
 show wpAny _ _ (field (.ref e) 4 >>= _) _ _ ⟨h1, g, d, tk, os⟩
 refine Va (Vj e1 rfl (x := .none) rfl ?_)
 show wpAny _ _ (mkInt c >>= _) _ _ ⟨h1, g, d, tk, os⟩
 refine Va (wpAny_mkInt ?_)
 show wpAny _ _ (setField (.ref e) 3 (rawInt (c + 1)) >>= _) _ _ ⟨h1, g, d, tk + 1, os⟩
 refine Va (Vp e1 (by simp) fun h2 e2 s2 => ?_)
 replace s2 : Xz e h1 h2 := s2
 replace e2 : Ual h2 e j (c + 1) old := e2
 show wpAny _ _ (setField (.ref e) 4 .none >>= _) _ _ ⟨h2, g, d, tk + 1, os⟩
 refine Va (Vp e2 (by simp) fun h3 e3 s3 => ?_)
 replace s3 : Xz e h2 h3 := s3
 replace e3 : Ual h3 e j (c + 1) old := e3
 show wpAny _ _ (newTuple [.int c tk, x] >>= _) _ _ ⟨h3, g, d, tk + 1, os⟩
 refine Va (wpAny_newTuple ?_)
 have e4 : Ual (h3.push { cls := .type "tuple", data := .seq #[.int c tk, x] }) e j (c + 1) old := Xb _ e3
 generalize q4 : h3.push { cls := .type "tuple", data := .seq #[.int c tk, x] } = h4 at e4
 have zz : h3.objs.size = hp.objs.size := by rw [s3.1, s2.1, s1.1]
 have lt : e < hp.objs.size := Xe he
 have t4 : h4.get? hp.objs.size = some { cls := .type "tuple", data := .seq #[.int c tk, x] } := by rw [← q4, ← zz]; exact Xf _ rfl
 have z4 : h4.objs.size = hp.objs.size + 1 := by rw [← q4, Wbv, zz]
 have k4 : ∀ b o, b ≠ e -> b ≠ j -> hp.get? b = some o -> h4.get? b = some o := fun b o n1 n2 q => by
  rw [← q4]; exact Xb _ (s3.extBut b o n1 (s2.extBut b o n1 (s1.extBut b o n2 q)))
 have j4 : h4.IsListIter j t (i + 1) := by
  obtain ⟨o, ho, r⟩ := id j1
  exact ⟨o, by rw [← q4]; exact Xb _ (s3.extBut j o (Ui hne) (s2.extBut j o (Ui hne) ho)), r⟩
 show wpAny _ _ (Ul (.ref e) >>= _) _ _ ⟨h4, g, d, tk + 1, os⟩
 rw [zz]
 clear q4 e3 s3 e2 s2 e1 s1 j1 zz h3 h2 h1
 refine Va ?_
 unfold Ul
 refine Va (Vj e4 rfl (x := .none) rfl (Vc ?_))
 simp only [if_true]
 refine Va (Uca (Va (Vj e4 rfl (x := old) rfl (Va (Vp e4 (by simp) fun h5 e5 s5 => ?_)))))
 replace s5 : Xz e h4 h5 := s5
 replace e5 : Ual h5 e j (c + 1) x := e5
 show wpAny _ _ (Uk (.ref e) (.ref hp.objs.size) >>= _) _ _ ⟨h5, g, d, tk + 1, os⟩
 refine Va ?_
 unfold Uk
 refine Va (Vp e5 (by simp) fun h6 e6 s6 => ?_)
 replace s6 : Xz e h5 h6 := s6
 replace e6 : Ubl h6 e j (c + 1) x hp.objs.size := e6
 refine Vp e6 (by simp) fun h7 e7 s7 => ?_
 replace s7 : Xz e h6 h7 := s7
 replace e7 : Ubl h7 e j (c + 1) x hp.objs.size := e7
 have up : ∀ b o, b ≠ e -> h4.get? b = some o -> h7.get? b = some o := fun b o n q => s7.extBut b o n (s6.extBut b o n (s5.extBut b o n q))
 refine Va (wpAny_letGo (Vc ⟨_, rfl, Vc (hQ h7 tk e7 ?_ (up _ _ (Wbt lt) t4) (by rw [s7.1, s6.1, s5.1, z4]) fun b o n1 n2 q => up b o n1 (k4 b o n1 n2 q))⟩))
 obtain ⟨o, ho, r⟩ := id j4
 exact ⟨o, up j o (Ui hne) ho, r⟩
theorem Zpm {e j t : Ve} {i : Nat} {c : Int} {its : Array Vb} {old : Vb} {Q : Option Vb -> Vd -> Prop} (hh : A.handled = none) (he : Ual s.heap e j c old) (hj : s.heap.IsListIter j t i) (ht : s.heap.IsList t its) (hx : its[i]? = none)
  (hQ : ∀ h', Wdh j s.heap h' -> Q none { s with heap := h' }) : wpAny (model prog w) A (pyNext (.ref e)) Q E s := by
 have hT : s.TypeIs (.ref e) "enumerate" := ⟨_, he, rfl⟩
 unfold pyNext
 refine Va (Vz (Vg (name := Ub "__next__") hT Uj (Vl Uj hT Tai ?_ (Tae _))))
 show wpAny _ _ (field (.ref e) 2 >>= _) _ _ _
 refine Va (Vj he rfl (x := .ref j) rfl (Va (Zvb hh hj ht hx fun h' z he' zz => ?_)))
 obtain ⟨o, ho, hc⟩ := zz
 exact Va (Ubh (T := "StopIteration") (b := true) ⟨o, ho, hc⟩ Ubs (Vc (hQ _ he')))
open AutoSeq1 (wpAny_loadPart') in
theorem Zqg (t : Ve) (its : Array Vb) (n : Nat) (dct : Option Ve) (sl : Array (Option Vb)) :
  Meets (Builtin.«enumerate.__new__» ⟨[.type "enumerate", .ref t], []⟩) (fun _ R s => s.heap.get? t = some { cls := .type "list", dict := dct, data := .seq its n, slots := sl } ∧
   R (.ok (.ret (.ref (s.heap.push { cls := .type "list_iterator", data := .fields #[.ref t, .int 0 0] }).objs.size)))
    { s with heap := (s.heap.push { cls := .type "list_iterator", data := .fields #[.ref t, .int 0 0] }).push { cls := .type "enumerate", data := .fields #[.none, .bool false, .ref s.heap.objs.size, rawInt 0, .none, .none] } }) :=
 .of_wp fun prog w A R s h => by
  obtain ⟨hp, g, d, tk, os⟩ := s; obtain ⟨hl, h⟩ := h
  have hsub := sub_enumerate
  have hL : Heap.IsList (Shared.heap ⟨hp, g, d, tk, os⟩) t its := ⟨_, hl, rfl, n, rfl⟩
  wp_walk using Vm hl
  refine wpAny_stack_any fun st => Vc ?_
  split
  ·rename_i k _ _ _ _ _
   cases (k == Tca "enumerate") <;> (wp_walk using Vm hl, Uap hL; exact ⟨_, rfl, h⟩)
  ·wp_walk using Vm hl, Uap hL
   exact ⟨_, rfl, h⟩
theorem Zoz {t : Ve} {its : Array Vb} {Q : Vb -> Vd -> Prop} (hL : s.heap.IsList t its)
  (h : ∀ h', Ual h' (s.heap.objs.size + 1) s.heap.objs.size 0 .none -> h'.IsListIter s.heap.objs.size t 0 -> h'.objs.size = s.heap.objs.size + 2 →
   (∀ b o, s.heap.get? b = some o -> h'.get? b = some o) -> Q (.ref (s.heap.objs.size + 1)) { s with heap := h' }) :
  wpAny (model prog w) A (call (.type "enumerate") [.ref t]) Q E s := by
 obtain ⟨⟨k, dct, dt, sl⟩, hl, hc, n, hd⟩ := hL
 replace hc : k = .type "list" := hc
 replace hd : dt = .seq its n := hd
 subst hc hd
 refine callType_new F.called_enumerate (by decide) (Tbu _) (Tbv _) (fun obj => Tcb obj _) Tbw (Zqg t its n dct sl) ⟨hl, ?_⟩
 have hz : (s.heap.push { cls := .type "list_iterator", data := .fields #[.ref t, .int 0 0] }).objs.size = s.heap.objs.size + 1 := Wbv ..
 show _ ∧ _
 rw [hz]
 have he : Ual ((s.heap.push { cls := .type "list_iterator", data := .fields #[.ref t, .int 0 0] }).push { cls := .type "enumerate", data := .fields #[.none, .bool false, .ref s.heap.objs.size, rawInt 0, .none, .none] }) (s.heap.objs.size + 1) s.heap.objs.size 0 .none := by
  have q := Xf (s.heap.push { cls := .type "list_iterator", data := .fields #[.ref t, .int 0 0] }) (o := { cls := .type "enumerate", data := .fields #[.none, .bool false, .ref s.heap.objs.size, rawInt 0, .none, .none] }) rfl
  rw [hz] at q; exact q
 exact ⟨⟨_, he, rfl⟩, h _ he ⟨_, Xb _ (Xf _ rfl), rfl, rfl⟩ (by rw [Wbv, hz]) fun b o x => Xb _ (Xb _ x)⟩
end
nonrec def IteL (c : Int) (a : Ve) : It :=
 ⟨fun i H => ∃ xs x, H a = some (.lst xs) ∧ xs[i]? = some x, fun i H v H' => ∃ p x, H p = none ∧ v = .ref p ∧ H' = upd H p (.tup [.int (c + i), x]) ∧ ∀ xs, H a = some (.lst xs) -> xs[i]? = some x, fun i H => ∃ xs, H a = some (.lst xs) ∧ xs.length ≤ i⟩
theorem Zpk {P : Vf} {w : Vk} {K : Xa} {es : List Vq} {k : Nat} {pos : Pos} (a e j : Ve) (c : Int) (hne : e ≠ j) : Turn P w K (.Tuple es k pos) (IteL c a) [e, j] e (fun i h => ∃ old, Ual h e j (c + i) old ∧ h.IsListIter j a i) where
 mem := by simp
 obj := fun i h st b hb => by
  obtain ⟨old, he, o, ho, hc, hd⟩ := st
  rcases Xn.mp hb with rfl | hb
  ·exact ⟨_, he, fun v z => by cases z⟩
  ·have : b = j := by simpa using hb
   subst this
   exact ⟨o, ho, fun v z => by rw [hd] at z; cases z⟩
 keep := fun i h h' st kk => by
  obtain ⟨old, he, o, ho, r⟩ := st
  exact ⟨old, kk e (by simp) _ he, o, kk j (by simp) o ho, r⟩
 item := by
  intro X hP hw hK hc i pins s σ H E I hf st hg
  subst hP hw hK
  obtain ⟨xs, x, hq, hx⟩ := hg
  obtain ⟨old, he, hj⟩ := st
  obtain ⟨its, rv, p, hz⟩ := I.list (SqL.of hq)
  obtain ⟨u, hu, ru⟩ := rv.get hx
  have fe := hf e (by simp)
  have fj := hf j (by simp)
  refine Zpv he hj p.isList (x := u) (by simpa using hu) hne fun h' tk eo j' t' z' kk => ?_
  refine ⟨_, rfl, Uav (s := { s with heap := h', toks := s.toks + 1 }) eo fun h2 e2 s2 => ?_⟩
  replace s2 : Xz e h' h2 := s2
  have le : e < s.heap.objs.size := Xe he
  have ne2 : s.heap.objs.size ≠ e := Wbt le
  -- the iterator's two records have turned, the pair is new
  have t2 : h2.get? s.heap.objs.size = some { cls := .type "tuple", data := .seq #[.int (c + i) tk, u] } := s2.extBut _ _ ne2 t'
  have hp0 : H s.heap.objs.size = none := I.hok.fresh (Xc _)
  have up : ∀ b o, b ∉ [e, j] -> s.heap.get? b = some o -> h2.get? b = some o := fun b o hb q =>
   s2.extBut b o (fun z => hb (by simp [z])) (kk b o (fun z => hb (by simp [z])) (fun z => hb (by simp [z])) q)
  have I2 : Inv X pins σ (upd H s.heap.objs.size (.tup [.int (c + i), x])) { s with heap := h2, toks := s.toks + 1 } := by
   refine I.step (g' := s.gens) (d' := s.drawn) (t' := s.toks + 1) (ch := [e, j]) (fun b hb => ?_) (fun b o _ _ hb q n => up b o hb q) (fun b o _ _ hb q n => ⟨o.slots, up b o hb q⟩) (fun b o _ q n => ?_) (fun b o hb q => ⟨o, up b o hb q⟩) (fun b ys q => ?_) (fun b o y q => ?_) (fun b ps q => ⟨#[], ?_⟩) (fun m hm => ?_) (fun b o q => ?_) I.bare
   ·have := hf b hb; exact ⟨this.2.2.2.1, this.2.1, this.2.2.2.2.1, this.2.2.2.2.2⟩
   ·rw [Zai (Xo (Xe q))]; exact n
   ·rw [Zai (Zak q hp0)]; exact q
   ·rw [Zai (Zak q hp0)]; exact q
   ·rw [Zai (Zak q hp0), q]; simp
   ·obtain ⟨o, es', ep, ho, r⟩ := hm
    exact ⟨o, es', ep, s2.extBut _ o (Ui fe.2.1) (kk _ o (Ui fe.2.1) (Ui fj.2.1) ho), r⟩
   ·by_cases hb : b = s.heap.objs.size
    ·subst hb
     rw [upd_same] at q
     cases q
     exact ⟨(by show 2 ≤ sizeLine; decide), [.int (c + i) tk, u], .cons ⟨tk, rfl⟩ (.cons ru .nil), _, t2, rfl, ⟨_, rfl⟩, rfl⟩
    ·rw [Zai hb] at q
     refine (I.hok b o q).stay (fun d v hd z => up d v (fun hm => ?_) z) (fun d z => by rw [Zai (Zak z hp0)]; exact z) fun d ys z => by rw [Zai (Zak z hp0)]; exact z
     have : H d ≠ none := by
      rcases hd with rfl | hd
      ·rw [q]; simp
      ·rw [hd]; simp
     exact this (hf d hm).1
  refine ⟨.ref s.heap.objs.size, _, I2, rfl, ⟨_, x, hp0, rfl, rfl, fun ys hy => by rw [hq] at hy; cases hy; exact hx⟩, ?_, fun b hb => ?_⟩
  ·obtain ⟨o, ho, r⟩ := id j'
   have ec : c + ((i + 1 : Nat) : Int) = c + (i : Int) + 1 := by push_cast; omega
   exact ⟨u, by rw [ec]; exact e2, o, s2.extBut j o (Ui hne) ho, r⟩
  ·have hb2 : b ≠ s.heap.objs.size := by
    rcases Xn.mp hb with rfl | hb
    ·exact Xo le
    ·have : b = j := by simpa using hb
     subst this
     obtain ⟨o, ho, _⟩ := id hj
     exact Xo (Xe ho)
   rw [Zai hb2]; exact (hf b hb).1
 done := by
  intro X hP hw hK hc i pins s σ H E I hf st hg
  subst hP hw hK
  obtain ⟨xs, hq, hx⟩ := hg
  obtain ⟨old, he, hj⟩ := st
  obtain ⟨its, rv, p, hz⟩ := I.list (SqL.of hq)
  obtain ⟨f0, f1, f2, f3, f4, f5⟩ := hf j (by simp)
  have hl := rv.length
  exact Zpm (I.ok.hd hc) he hj p.isList (by simp; omega) fun h' eb => ⟨rfl, I.turned (t' := s.toks) (fun b o hb q => eb b o hb q) f0 f1 f3 f4 f5⟩
 self := fun _ _ _ _ _ st h => by
  obtain ⟨old, he, _⟩ := st
  exact Uao he h
section
variable {X : Cx} {scope : Ubi} {x y0 : Str} {cn : List Str} {ci : List Nat}
nonrec def Zk1 (f : AF) : ItF := fun σ H => (f σ H).bind fun p => match p.1 with
 | [.ref n] => match p.2[n]? with
  | some (.lst xs) => some ((Zb9 0 xs, [(n, .lst xs)]), p.2)
  | _ => none
 | _ => none
theorem Zqj {K : Xa} {H0 : Hp} {ι0 : List Ve} {a : Ve} {n : Nat} {c : Int} {xs : List D} (ha : ι0[n]? = some a) : ItRep K (IteL c a) (Zb9 c xs) [(n, .lst xs)] H0 ι0 := by
 have now : ∀ {H2 : Hp} {ι2 : List Ve} {Hd2 : HD}, Le K H0 ι0 H2 ι2 -> HRep K H2 ι2 Hd2 -> Zct [(n, DO.lst xs)] Hd2 -> ∃ ws, H2 a = some (.lst ws) ∧ Vh (Rep K H2 ι2) xs ws := fun {H2 ι2 Hd2} l2 h2 ok =>
  h2.obj n a _ (l2.get ha) (ok (n, .lst xs) (by simp))
 refine ⟨fun i H2 ι2 Hd2 l2 h2 ok hi => ?_, fun i H2 ι2 Hd2 d v H3 l2 h2 ok hd y => ?_, fun i H2 ι2 Hd2 l2 h2 ok hi => ?_⟩
 ·obtain ⟨ws, h3, P3⟩ := now l2 h2 ok
  exact ⟨ws, ws[i]'(by rw [← Prd.len P3, ← Zeu xs c]; exact hi), h3, by simp⟩
 ·obtain ⟨ws, h3, P3⟩ := now l2 h2 ok
  obtain ⟨p, x, hp, rfl, rfl, y⟩ := y
  obtain ⟨x', hx', rfl⟩ := Zi2 hd
  obtain ⟨u, hu, ru⟩ := Prd.get P3 hx'
  have := y ws h3
  rw [hu] at this
  cases this
  exact ⟨ι2, Le.fresh hp _, h2.tup hp _, Zbj.mpr ⟨p, _, rfl, SqT.of upd_same, .cons (by simp) (.cons (ru.mono (Le.fresh hp _)) .nil)⟩⟩
 ·obtain ⟨ws, h3, P3⟩ := now l2 h2 ok
  exact ⟨ws, h3, by rw [← Prd.len P3, ← Zeu xs c]; exact hi⟩
theorem Zl1 {es : List Vq} {k : Nat} {tp p pos : Pos} {a : Vq} {f : AF} (hg : Gl X "enumerate") (hm : X.mg "enumerate" = none) (ha : PAf X [a] f) (hs : starEach [a] X.env = [(false, eval a X.env)] := by rfl) : PIf X (.Tuple es k tp) (.Call (.Name "enumerate" p) [a] [] pos) (Zk1 f) := by
 rintro pins s σ H R I ⟨ι, σd, Hd, xs, own, Hd', sr, hr, e, q⟩
 obtain ⟨⟨ds, H1⟩, e1, e⟩ := Zo e
 dsimp only at e
 split at e
 ·rename_i n
  split at e
  ·rename_i ys eo
   cases e
   refine Call_ (Zfh I hg hm boot_enumerate (Uu (thn (ha pos pins s σ H (fun vs H' => ∃ a ws, vs = [.ref a] ∧ H' a = some (.lst ws) ∧ ∀ (J : It) (H2 : Hp), H2 = H' -> J = IteL 0 a -> R J H2) I ⟨ι, σd, Hd, _, _, sr, hr, e1, fun vs H' ι' l h P => ?_⟩) fun us s1 ⟨vs, H2, I2, r2, q2⟩ => ?_) hs rfl))
   ·obtain ⟨v, rfl, r⟩ := Zl0 P
    obtain ⟨ad, rfl, had⟩ := Za4.mp r
    obtain ⟨ws, hS, P2⟩ := h.obj n ad _ had eo
    refine ⟨ad, ws, rfl, hS, fun J H2 e2 e3 => ?_⟩
    subst e2 e3
    exact q _ _ ι' l h (Zqj had)
   ·obtain ⟨ad, ws, rfl, hS, q2⟩ := q2
    obtain ⟨u, rfl, ru⟩ := Zhl r2
    cases ru
    obtain ⟨its, rv, p, hz⟩ := I2.list (SqL.of hS)
    refine Zoz p.isList fun h' he hj z' kk => ?_
    have I3 : Inv X pins σ H2 { s1 with heap := h' } := I2.kept (t' := s1.toks) kk
    refine Uao (s := { s1 with heap := h' }) he ?_
    have ne : s1.heap.objs.size + 1 ≠ s1.heap.objs.size := Wfh _
    refine ⟨s1.heap.objs.size + 1, [s1.heap.objs.size + 1, s1.heap.objs.size], _, IteL 0 ad, H2, rfl, I3, Zpk ad _ _ 0 ne, ⟨.none, by simpa using he, hj⟩, fun b hb => ?_, q2 _ _ rfl rfl⟩
    have : s1.heap.objs.size ≤ b := by
     rcases Xn.mp hb with rfl | hb
     ·exact Wci _
     ·have : b = s1.heap.objs.size := by simpa using hb
      rw [this]; exact Xc _
    exact I2.fpOk (b := b) (H' := H2) this (I2.hok.fresh this)
  ·cases e
 ·cases e
end
nonrec def Ztf (kvs : List (Int × D)) (k : Int) (v : D) : List (Int × D) := if kvs.any (fun p => p.1 = k) = true then kvs.map (fun p => if p.1 = k then (p.1, v) else p) else kvs ++ [(k, v)]
nonrec def Zmj (kvs : List (Int × D)) (k : Int) : Option D := (kvs.find? fun p => p.1 = k).map (·.2)
nonrec def dciD (x : D) (H : HD) : Option (List (Int × D)) := match x with
 | .ref n => match H[n]? with
  | some (.dci kvs) => some kvs
  | _ => none
 | _ => none
nonrec def iinD : F2 := fun x y H => (dciD y H).bind fun kvs => match x with
 | .int k => some (.bl (Zmj kvs k).isSome, H)
 | _ => none
theorem Zso {x : D} {Hd : HD} {kvs : List (Int × D)} (e : dciD x Hd = some kvs) : ∃ n, x = .ref n ∧ Hd[n]? = some (.dci kvs) := by
 cases x <;> simp only [dciD] at e <;> try cases e
 rename_i n
 split at e
 ·rename_i h; cases e; exact ⟨n, rfl, h⟩
 ·cases e
section
variable {K : Xa} {H : Hp} {ι : List Ve}
theorem Zvd {kvs : List (Int × D)} {xs : List (Int × Vb)} (h : Vh (Zur K H ι) kvs xs) (k : Int) : kvs.any (fun p => p.1 = k) = xs.any (fun p => p.1 = k) := by
 induction h with
 | nil => rfl
 | cons a b ih => rw [Wde, Wde, ih, a.1]
theorem Zt5 {kvs : List (Int × D)} {xs : List (Int × Vb)} {k : Int} {d : D} {v : V} {u : Vb} (h : Vh (Zur K H ι) kvs xs) (r : Zca v u) (q : Rep K H ι d v) : Vh (Zur K H ι) (kvs.map (fun p => if p.1 = k then (p.1, d) else p)) (xs.map (fun p => if p.1 = k then (p.1, u) else p)) := by
 induction h with
 | nil => exact .nil
 | cons a b ih =>
  refine .cons ?_ ih
  dsimp only
  rw [a.1]
  split
  ·exact ⟨rfl, v, r, q⟩
  ·exact a
theorem Zuf {kvs : List (Int × D)} {xs : List (Int × Vb)} {k : Int} {d : D} {v : V} {u : Vb} (h : Vh (Zur K H ι) kvs xs) (r : Zca v u) (q : Rep K H ι d v) : Vh (Zur K H ι) (Ztf kvs k d) (stored xs k u) := by
 unfold Ztf stored
 rw [Zvd h k]
 split
 ·exact Zt5 h r q
 ·exact Prd.append h (.cons ⟨rfl, v, r, q⟩ .nil)
theorem Zsr {kvs : List (Int × D)} {xs : List (Int × Vb)} (h : Vh (Zur K H ι) kvs xs) (k : Int) : (Zmj kvs k = none ∧ valueAt xs k = none) ∨ ∃ d v u, Zmj kvs k = some d ∧ valueAt xs k = some u ∧ Zca v u ∧ Rep K H ι d v := by
 unfold Zmj valueAt
 induction h with
 | nil => exact .inl ⟨rfl, rfl⟩
 | cons a b ih =>
  rename_i p x ps xs'
  by_cases e : p.1 = k
  ·have e2 : x.1 = k := by rw [← a.1]; exact e
   obtain ⟨_, v, r, q⟩ := a
   exact .inr ⟨p.2, v, x.2, by rw [Wct (by simpa using e)]; rfl, by rw [Wct (by simpa using e2)]; rfl, r, q⟩
  ·have e2 : ¬ x.1 = k := by rw [← a.1]; exact e
   rw [Wcu (by simpa using e), Wcu (by simpa using e2)]
   exact ih
end
theorem Zu4 {p p2 : Vf} {w w2 : Vk} {es : List Uab} {xs : List (Int × Vb)} (e : Pairs (Zu5 p w) es xs) : Pairs (Zu5 p2 w2) es xs := by
 induction e with
 | nil => exact .nil
 | cons a b c ih => exact .cons a b ih
theorem Zpn {h : Vu} {a : Ve} {xs : List (Int × Vb)} {p : Vf} {w : Vk} (d : h.DictOf (Zu5 p w) a xs) : Zen a xs h := fun p2 w2 => by
 obtain ⟨o, es, ep, e1, e2, e3, e4, e5, e6⟩ := d
 refine ⟨o, es, ep, e1, e2, e3, e4, ?_, e6⟩
 exact Zu4 e5
section
variable {X : Cx}
theorem Zv5 {pins : List (Ve × Obj)} {σ : L2.St} {H : Hp} {s : Vd} {ι : List Ve} (I : Inv X pins σ H s) {a : Ve} {kvs : List (Int × D)} (h : Zrc X.K H ι a (.dci kvs)) : (a == sysModules) = false ∧ ∃ xs, Vh (Zur X.K H ι) kvs xs ∧ s.heap.DictOf (Zu5 X.prog X.w) a xs := by
 obtain ⟨h1, h2, xs, h3, P⟩ := h
 exact ⟨h1, xs, P, (I.hok a _ h3).1 X.prog X.w⟩
end
section
variable {X : Cx}
theorem iinf : OpF X (compareOp .In) iinD := by
 rintro pins s σ H x y v u Q I rx ry ⟨ι, dx, dy, Hd, d, Hd', hr, r1, r2, e, q⟩
 obtain ⟨kvs, e1, e⟩ := Zo e
 split at e
 ·rename_i k _
  obtain ⟨rfl, rfl⟩ := Wba.inj (Waa.inj e)
  obtain ⟨n, rfl, hn⟩ := Zso e1
  obtain ⟨a, rfl, ha⟩ := Za4.mp r2
  simp at r1
  subst r1
  obtain ⟨tok, rfl⟩ := rx
  cases ry
  obtain ⟨h1, xs, P, dd⟩ := Zv5 I (hr.obj n a _ ha hn)
  refine wpAny_in_of (knd := Zu5 X.prog X.w) (k := k) (Zmb (k := k) (t := tok)) h1 dd.mapOf ?_
  have e3 : (valueAt xs k).isSome = (Zmj kvs k).isSome := by
   rcases Zsr P k with ⟨z1, z2⟩ | ⟨_, _, _, z1, z2, _⟩ <;> rw [z1, z2] <;> rfl
  rw [e3]
  exact ⟨.bl _, H, I.tok _, rfl, q _ H ι Le.refl hr (by simp)⟩
 ·cases e
end
end DL
namespace L2
open PySem PySem.Spec PyProof.Rows
theorem Zdq.here {P : Vf} {w : Vk} {H : Hp} {h : Vu} {a : Ve} {o : HO} (x : Zdq P w H h a o) : ∃ ob, h.get? a = some ob := by
 cases o with
 | lst xs => obtain ⟨_, its, n, _, e⟩ := x; exact ⟨_, e⟩
 | tup xs => obtain ⟨_, its, _, ob, e, _⟩ := x; exact ⟨_, e⟩
 | dK kvs => obtain ⟨_, _, vs, _, ob, es, ep, e, _⟩ := x; exact ⟨_, e⟩
 | dT kvs => obtain ⟨_, _, xs, _, ob, es, ep, e, _⟩ := x; exact ⟨_, e⟩
 | set S n => obtain ⟨ob, es, ep, t, e, _⟩ := x; exact ⟨_, e⟩
 | ins C dx fs => obtain ⟨_, _, _, e, _⟩ := x; exact ⟨_, e⟩
 | own y => obtain ⟨ob, e⟩ := x; exact ⟨_, e⟩
 | xd fs => obtain ⟨mA, ⟨od, es, ep, e, _⟩, _⟩ := x; exact ⟨_, e⟩
 | rng lo hi => obtain ⟨t, u, v, e⟩ := x; exact ⟨_, e⟩
 | frz ob u => obtain ⟨e, _⟩ := x; exact ⟨_, e⟩
 | tbl ps => exact ⟨_, x⟩
 | met f y => exact ⟨_, x⟩
 | ext φ => obtain ⟨_, e, _⟩ := x; exact e
end L2
namespace DL
open PySem PySem.Spec PyProof.Rows L2 PySem.W
theorem Zmf {P : Vf} {w : Vk} {l : List Env} {H H1 : Hp} {h0 h1 h2 B : Vu} (u : Un (frs l) [] H H1 h0 h1) (ok : HOk P w H1 h1) (bo : ∀ b o, h0.get? b = some o -> b ∉ frs l -> ∃ o', B.get? b = some o' ∧ (H b = none -> o' = o)) (bt : ∀ b ho, H1 b = some ho -> ∃ o, h1.get? b = some o ∧ B.get? b = some o)
  (st : B.StaysIn h2) (up : h1.UpToSlots h2) (ff : h1.FunFrames B l) : Un (frs l) [] H H1 h0 h2 ∧ HOk P w H1 h2 := by
 have fram : ∀ b o, b ∈ frs l -> h1.get? b = some o -> ∃ sl, h2.get? b = some { o with slots := sl } := fun b o z eb => by
  obtain ⟨_, o', g1, g3⟩ := ff.mem z
  rw [eb] at g1
  cases g1
  exact up b o eb g3
 refine ⟨⟨fun b o e n nb _ => ?_, fun b o e n hb hx => ?_, u.free, fun b o e hx => ?_, u.tups, u.frzs, u.tbls⟩, fun b ho e => ?_⟩
 ·obtain ⟨o', g, z⟩ := bo b o e nb
  rw [z n] at g
  exact st b o g
 ·obtain ⟨sl, g⟩ := u.slot b o e n hb hx
  obtain ⟨sl', g'⟩ := fram b _ hb g
  exact ⟨sl', g'⟩
 ·by_cases z : b ∈ frs l
  ·obtain ⟨o1, g⟩ := u.there b o e hx
   obtain ⟨sl, g'⟩ := fram b o1 z g
   exact ⟨_, g'⟩
  ·obtain ⟨o', g, _⟩ := bo b o e z
   exact ⟨o', st b o' g⟩
 ·refine (ok b ho e).stay (fun c v hc g => ?_) (fun _ z => z) (fun _ _ z => z)
  have tk : ∃ hc, H1 c = some hc := by
   rcases hc with rfl | hc
   ·exact ⟨_, e⟩
   ·exact ⟨_, hc⟩
  obtain ⟨hc', tk⟩ := tk
  obtain ⟨o, g1, g2⟩ := bt c hc' tk
  rw [g] at g1
  cases g1
  exact st c v g2
section
variable {X : Cx} {C : Ve} {st : Vw} {sts : List Vw} {e c : Vq} {pos np cpos : Pos} {x : Str}
theorem Ya9 : PSs X sts fun _ _ _ => False := fun _ _ _ _ _ _ h => h.elim
end
end DL
namespace L2
open PySem PySem.Spec PyProof.Rows
theorem Zxe {X : Cx} {pins : List (Ve × Obj)} {σ : St} {H : Hp} {s : Vd} {M : Ucf} {A : Vo} {E : Vb -> Vd -> Prop} {i : Nat} {x : Str} {pos : Pos} {Q : Unit -> Vd -> Prop} (I : Inv X pins σ H s) (hN : X.N.Nodup) (hi : X.N[i]? = some x) (hl : X.env.kindOf x = some .local)
  (h : ∀ s', Inv X pins (σ.set i none) H s' -> Q () s') : wpAny M A (do bindName X.env x .none; unbindBehindTheSuite X.env x pos) Q E s := by
 obtain ⟨m, hn, hv⟩ := id I.loc
 refine wpAny_nameGoes_keeps hl hn (by rw [I.ok.kind]; rfl) fun h' v hn' hs => h _ ?_
 have old : ∀ b o, X.s₀.heap.get? b = some o -> b ≠ X.env.locals := fun b o e => Xo (Xl (Xe e) I.ok.above)
 have tr : ∀ b ho, H b = some ho -> b ≠ X.env.locals := fun b ho e z => by rw [z, I.free] at e; cases e
 refine ⟨I.ok, I.os, I.bare, ⟨fun b o e n hb hx => (hs.2 b (old b o e)).trans (I.base.keep b o e n hb hx), fun b o e n hb hx => ?_, I.base.free, fun b o e hx => ?_, I.base.tups, I.base.frzs, I.base.tbls⟩, ⟨_, hn', fun j y w e1 e2 e3 => ?_⟩, fun y c e => ?_, I.free, I.freeC, fun p hp => ?_, fun b ho e => ?_, by simpa using I.len⟩
 ·obtain ⟨sl, g⟩ := I.base.slot b o e n hb hx
  exact ⟨sl, (hs.2 b (old b o e)).trans g⟩
 ·obtain ⟨o', g⟩ := I.base.there b o e hx
  exact ⟨o', (hs.2 b (old b o e)).trans g⟩
 ·by_cases hj : j = i
  ·subst hj
   rw [Wca] at e2
   split at e2
   ·split at e2 <;> cases e2
   ·rename_i z; exact absurd rfl z
  ·rw [Wam (Ui hj)] at e2
   obtain ⟨u, r, q⟩ := hv j y w e1 e2 e3
   refine ⟨u, r, ?_⟩
   rcases q with ⟨k, z⟩ | ⟨k, c, z, g⟩
   ·have ne : y ≠ x := fun z => hj (Zkc hN e1 (z ▸ hi))
    exact .inl ⟨k, (if_neg ne).trans z⟩
   ·exact .inr ⟨k, c, z, g.sameBut hs (I.cne y c z)⟩
 ·obtain ⟨w, g⟩ := I.cell y c e
  exact ⟨w, g.sameBut hs (I.cne y c e)⟩
 ·obtain ⟨e, n, ne, nf, d⟩ := I.pin p hp
  exact ⟨(hs.2 p.1 ne).trans e, n, ne, nf, d⟩
 ·refine (I.hok b ho e).stay (fun c u hc g => (hs.2 c ?_).trans g) (fun _ z => z) (fun _ _ z => z)
  rcases hc with rfl | hc
  ·exact tr _ _ e
  ·exact tr _ _ hc
end L2
namespace DL
open PySem PySem.Spec PyProof.Rows L2 PySem.W
nonrec abbrev Xh (X : Cx) (ex : Ve) (oe : Obj) : Cx := { X with A := X.A.mark (some (.ref ex)), calm := false, pn := (ex, oe) :: X.pn, xe := fun _ _ => False }
theorem Inv.marked {X : Cx} {pins : List (Ve × Obj)} {σ : L2.St} {H : Hp} {s : Vd} {ex : Ve} {oe : Obj} (I : Inv X pins σ H s) (g : s.heap.get? ex = some oe) (n : H ex = none) (ne : ex ≠ X.env.locals) (nf : ex ∉ X.fs) (nc : ∀ v, oe.data ≠ .cell v) : Inv (Xh X ex oe) pins σ H s := by
 obtain ⟨o1, o2, o3, o4, o5, o6, o7, o8, o9, o10, o11, o12, o13, o14, o15, o16, o17, o18⟩ := I.ok
 refine ⟨⟨o1, o2, o3, o4, o5, o6, o7, o8, (fun z => by cases z), o10, o11, o12, o13, o14, o15, o16, o17, o18⟩, I.os, I.bare, I.base, I.loc, I.cell, I.free, I.freeC, fun p hp => ?_, I.hok, I.len⟩
 rcases Xn.mp (show p ∈ (ex, oe) :: (X.pn ++ pins) from hp) with rfl | hp
 ·exact ⟨g, n, ne, nf, nc⟩
 ·exact I.pin p hp
theorem Inv.unmark {X : Cx} {pins : List (Ve × Obj)} {σ : L2.St} {H : Hp} {s : Vd} {ex : Ve} {oe : Obj} (ok : X.Ok) (I : Inv (Xh X ex oe) pins σ H s) : Inv X pins σ H s :=
 ⟨ok, I.os, I.bare, I.base, I.loc, I.cell, I.free, I.freeC, fun p hp => I.pin p (Xw _ hp), I.hok, I.len⟩
structure ExcL (K : Xa) (C : Ve) : Prop where
 ga : findIn K (.ref C) "__getattribute__" = some (some (.builtin "BaseException.__getattribute__"))
 gr : findIn K (.ref C) "__getattr__" = some none
 cl : findIn K (.ref C) "__class__" = some (some (.builtin "object.__class__"))
 gt : specialIn K (.builtin "object.__class__") "__get__" = some (some (.builtin "getset_descriptor.__get__"))
 tk : takesIn K (.builtin "object.__class__") = some true
 mr : mroIn K C (.type "object") = some true
 sb : subIn K (.ref C) (.type "BaseException") = some true
 cs : (clsIn K C).isSome = true
section
variable {prog : Vf} {w : Vk} {A : Vo} {E : Vb -> Vd -> Prop} {s : Vd} {K : Xa} {x C : Ve} {ox : Obj}
structure ExcO (h : Vu) (x : Ve) (ox : Obj) (C : Ve) : Prop where
 at_ : h.get? x = some ox
 cls : ox.cls = .ref C
theorem ExcO.type {M : Ucf} {h : Vu} (I : ExcO h x ox C) : Ucg M h (typeOf (.ref x)) (.ref C) := by rw [← I.cls]; exact (Looks.ld I.at_).andThen .now
theorem Zuq {M : Ucf} {h : Vu} (L : ExcL K C) (X : K.In h) : Ucg M h (Tbr (.ref x) (.ref C) "__class__") (.bind (.builtin "getset_descriptor.__get__") (.builtin "object.__class__")) := by
 have a1 := Uai (M := M) X L.cl
 have a2 := looks_specialIn (M := M) X L.gt
 have a3 := looks_takesIn (M := M) X L.tk
 unfold Tbr
 refine a1.andThen ?_
 refine Looks.andThen (t := Builtin.ObjectAttr.getOf (some (.builtin "object.__class__"))) a2 ?_
 refine Looks.andThen (t := Tas (some (.builtin "object.__class__")) (some (.builtin "getset_descriptor.__get__"))) (a := some (.builtin "getset_descriptor.__get__", .builtin "object.__class__")) ?_ (Looks.tag .now)
 unfold Tas
 exact a3.andThen .now
theorem Zxa {R : Result → Vd → Prop} {tp : Vb} (X : K.In s.heap) (I : ExcO s.heap x ox C) (hm : mroIn K C (.type "object") = some true) (z : R (.ok (.ret (.ref C))) s) : codeAny (model prog w) A (.call (.builtin "getset_descriptor.__get__") ⟨[.builtin "object.__class__", .ref x, tp], []⟩) R s := by
 obtain ⟨h1, g1, d1, t1, o1⟩ := s
 have a0 := I.type (M := model prog w)
 have a1 := looks_mroIn (M := model prog w) X hm
 refine Uaa KF.slot_gs.plain KF.entry_gs ?_
 refine KF.slot_gs.check _ _ _ _ _ _ _ _ KF.type_class (KF.args_gs _ _ _) ?_
 (unfold Builtin.«getset_descriptor.__get__» Builtin.Getset_descriptor.descrGet; rw [dga_obj]; refine Va (Vc ?_); unfold Builtin.Getset_descriptor.descrGetter Builtin.Getset_descriptor.descrCheckInstance Builtin.Getset_descriptor.descrNameAndClass isInstance; simp only [KF.owner_class]; repeat lk)
 have e1 := KF.entry_class
 refine ⟨Taj _ (by decide +kernel), Uan e1 ?_⟩
 (unfold Builtin.«object.__class__» shownTypeOf; repeat lk); exact z
theorem Zs3 {Q : Option Vb → Vd → Prop} (L : ExcL K C) (X : K.In s.heap) (I : ExcO s.heap x ox C) (q : Q (some (.ref C)) { s with toks := s.toks + 1 }) : wpAny (model prog w) A (getAttr? (.ref x) "__class__") Q E s := by
 obtain ⟨hh, g, d, t, os⟩ := s
 have L0 := I.type (M := model prog w)
 have L1 := Uai (M := model prog w) X L.ga
 have L2 := Uai (M := model prog w) X L.gr
 have LF := Zuq (x := x) (M := model prog w) L X
 have LS := looks_subIn (M := model prog w) X L.sb
 unfold getAttr? getAttrBy? getAttrBy
 refine Va (wpAny_mkText (Va (Vz (Vr (Va (L0.at (Va (L1.at ?_))))))))
 show wpAny _ _ (if (onTheHeap (Ud C) && (Us "BaseException.__getattribute__" == Us "object.__getattribute__")) = true then _ else _) _ _ _
 have n2 : (Us "BaseException.__getattribute__" == Us "object.__getattribute__") = false := by decide +kernel
 rw [if_neg (by rw [n2, Wdb]; exact Wai)]
 unfold getAttrByItsOwn hookBefore
 rw [if_pos (by rfl)]
 refine Va (L2.at (Va (Vz (Vr ?_))))
 unfold callGetattribute
 rw [if_neg (by exact Wai)]
 unfold boundAndCalled
 have LI : Ucg (model prog w) hh (isInstance (.ref x) (.type "BaseException")) true := L0.andThen LS
 rw [Tag.ga.bind (.ref x)]
 refine Va (Vc ?_)
 show wpAny _ _ (call (.builtin "BaseException.__getattribute__") [.ref x, .str (Ub "__class__") t]) _ _ _
 refine Uaj (Uaa Tag.ga.plain Tby ?_)
 have b1 : builtinKind "BaseException.__getattribute__" = some .slot := by decide +kernel
 have b2 : splitId "BaseException.__getattribute__" = some ("BaseException", "__getattribute__") := by decide +kernel
 have b3 := Tcc (.ref x) (.str (Ub "__class__") t)
 simp only [checkBuiltinCall, b1, b2]
 refine Va (LI.at ?_)
 repeat (first | (with_reducible refine L0.at ?_) | (with_reducible refine LF.at ?_) | wp_step)
 exact Zxa (ox := ox) X I L.mr (Vc (handed_on rfl (Vc q)))
theorem Zqn (L : ExcL K C) : ∃ c dd cd sl, K.lookup C = some ⟨c, dd, .cls cd, sl⟩ := by
 have z := L.cs
 unfold clsIn at z
 split at z
 ·rename_i e; exact ⟨_, _, _, _, e⟩
 ·cases z
theorem Zn4 (L : ExcL K C) : KitX K (.ref x) (.ref C) (fun h => ExcO h x ox C) where
 ty := fun _ _ _ I => I.type
 it := fun M h X _ => by
  obtain ⟨c, dd, cd, sl, e⟩ := Zqn L
  intro A1 Q1 E1 s1 kp z
  show wpAny M A1 (isType (.ref C)) Q1 E1 s1
  unfold isType loadHead
  refine Va (wpAny_loadPart (kp C _ (X C _ e)) ?_)
  exact Vc z
 ne := fun h tp dd its n sl X g => by
  obtain ⟨c, d1, cd, s1, e⟩ := Zqn L
  cases z : (Ud C == Ud tp) with
  | false => rfl
  | true =>
   have y : C = tp := Ud.inj (beq_iff_eq.mp z)
   subst y
   have y := X C _ e
   rw [g] at y
   cases y
 ca := fun X I z => Zs3 L X I z
end
theorem Zzs {x : V} {r : List V} {l : List Vb} (h : Zbp (x :: r) l) : ∃ b t, l = b :: t ∧ Zca x b ∧ Zbp r t := by
 cases h with
 | cons p P => exact ⟨_, _, rfl, p, P⟩
section
variable {X : Cx}
theorem Zs9 : ∀ {cs : List Ve} {its : List Vb}, Zbp (cs.map .ref) its -> its = cs.map .ref := by
 intro cs
 induction cs with
 | nil => intro its rv; cases rv; rfl
 | cons a r ih =>
  intro its rv
  obtain ⟨b, t, rfl, p1, p2⟩ := Zzs rv
  have p1 : b = Ud a := p1
  rw [p1, ih p2]; rfl
theorem Zqs {ex C : Ve} {oe : Obj} {c : V} {cV : Vb} {b : Bool} (L : ExcL X.K C) (hc : oe.cls = .ref C) (hu : ∀ u, Zca c u -> u = cV) (e : kitOne X.K (.ref C) cV = some b) :
  Zhj (Xh X ex oe) (.builtin "isinstance") (fun xs H Q => xs = [.ref ex, c] ∧ Q (.bl b) H) := by
 rintro pins s σ H xs us Q I r ⟨rfl, q⟩
 obtain ⟨u1, u2, rfl, r1, r2⟩ := Zqt r
 have e1 : u1 = .ref ex := r1
 subst e1
 obtain rfl := hu u2 r2
 have pn := I.pin (ex, oe) (Wal _ (Wav ..))
 exact kia_one (Zn4 (ox := oe) (x := ex) L) I.kIn ⟨pn.1, hc⟩ e (by rintro z; cases z) fun tk => ⟨.bl b, H, I.tok tk, rfl, q⟩
theorem Zyx {ex C : Ve} {oe : Obj} {cs : List Ve} {b : Bool} (L : ExcL X.K C) (hc : oe.cls = .ref C) (e : kitAny X.K (.ref C) (cs.map .ref) = some b) :
  Zhj (Xh X ex oe) (.builtin "isinstance") (fun xs H Q => ∃ p, xs = [.ref ex, .ref p] ∧ H p = some (.tup (cs.map .ref)) ∧ Q (.bl b) H) := by
 rintro pins s σ H xs us Q I r ⟨p, rfl, hp, q⟩
 obtain ⟨u1, u2, rfl, r1, r2⟩ := Zqt r
 have e1 : u1 = .ref ex := r1
 have e2 : u2 = .ref p := r2
 subst e1 e2
 have pn := I.pin (ex, oe) (Wal _ (Wav ..))
 obtain ⟨_, its, rv, o, g, c1, ⟨n, d1⟩, _⟩ := I.hok p _ hp
 have ei := Zs9 rv
 subst ei
 obtain ⟨oc, od, odd, os⟩ := o
 have c1 : oc = .type "tuple" := c1
 have d1 : odd = .seq (cs.map Ud).toArray n := d1
 subst c1 d1
 exact kia_tup (Zn4 (ox := oe) (x := ex) L) I.kIn ⟨pn.1, hc⟩ g e (by rintro z; cases z) fun tk => ⟨.bl b, H, I.tok tk, rfl, q⟩
nonrec def Zsk (cs : List Ve) : TA := fun _ H Q => Q (cs.map .ref) H
theorem Zrk : PA X [] (Zsk []) := Zjj
theorem Zig {x : Str} {c : Ve} {cs : List Ve} {es : List Vq} {p : Pos} (hg : Gl X x) (hm : X.mg x = some (.ref c)) (h : PA X es (Zsk cs)) (hd : (x == ("__debug__" : Str)) = false := by decide) (hs : starEach (.Name x p :: es) X.env = (false, eval (.Name x p) X.env) :: starEach es X.env := by rfl) : PA X (.Name x p :: es) (Zsk (c :: cs)) :=
 Zcz (Zm1 (v := .ref c) hg hm rfl hd) h hs
end
section
variable {X : Cx}
theorem Yal {st : Vw} {t : TS} (h : PS X.nox st t) : PS X st t := by
 intro pins s σ H D I q
 refine Vn (h pins s σ H D (I.wish _) q) (fun f s1 z => ?_) fun _ _ z => z.elim
 cases f with
 | next => obtain ⟨σ1, H1, I1, z⟩ := z; exact ⟨σ1, H1, I1.unwish, z⟩
 | brk => obtain ⟨σ1, H1, I1, z⟩ := z; exact ⟨σ1, H1, I1.unwish, z⟩
 | cont => obtain ⟨σ1, H1, I1, z⟩ := z; exact ⟨σ1, H1, I1.unwish, z⟩
 | ret u => obtain ⟨v, σ1, H1, I1, r, z⟩ := z; exact ⟨v, σ1, H1, I1.unwish, r, z⟩
theorem Yba {es : List Vq} {t : TA} (h : PA X.nox es t) : PA X es t := by
 intro pos pins s σ H Q I q
 refine Vn (h pos pins s σ H Q (I.wish _) q) (fun us s1 z => ?_) fun _ _ z => z.elim
 obtain ⟨vs, H1, I1, r, z⟩ := z
 exact ⟨vs, H1, I1.unwish, r, z⟩
end
theorem Ze1 {K : Xa} {hp : Vu} {mg : Str -> Option Vb} {n : Str} {c : Ve} (X : K.In hp) (G : hp.Ns mainGlobals mg) (e : nsIn K mainGlobals n = some (some (.ref c))) : mg n = some (.ref c) := Wco X G e
end DL
namespace DL
open PySem PySem.Spec PyProof.Rows L2
theorem Zts (kvs : List (Int × D)) (k : Int) (v : D) : (Ztf kvs k v).length ≤ kvs.length + 1 := by unfold Ztf; split <;> simp
nonrec def Zs8 : Zzl := fun o i v H => match o, i with
 | .ref n, .int k => match H[n]? with
  | some (.dci kvs) => if kvs.length < sizeLine then some (H.set n (.dci (Ztf kvs k v))) else none
  | _ => none
 | _, _ => none
section
variable {X : Cx}
theorem isetf : Zz3 X Zs8 := by
 rintro pins s σ H o i v ov iv u Q I ro ri rv ⟨ι, od, id, vd, Hd, Hd', hr, r1, r2, r3, e, q⟩
 have hx : ∃ n k kvs, od = .ref n ∧ id = .int k ∧ Hd[n]? = some (.dci kvs) ∧ kvs.length < sizeLine ∧ Hd' = Hd.set n (.dci (Ztf kvs k vd)) := by
  unfold Zs8 at e
  split at e
  ·rename_i n k
   split at e
   ·rename_i kvs hn
    split at e
    ·rename_i hl; cases e; exact ⟨n, k, kvs, rfl, rfl, hn, hl, rfl⟩
    ·cases e
   ·cases e
  ·cases e
 obtain ⟨n, k, kvs, rfl, rfl, hn, hl, rfl⟩ := hx
 obtain ⟨a, rfl, ha⟩ := Za4.mp r1
 have r2 : i = .int k := by simpa using r2
 subst r2
 cases ro
 obtain ⟨tk, rfl⟩ := ri
 obtain ⟨h1, h2, xs, h3, P⟩ := hr.obj n a _ ha hn
 have dd : Zen a xs s.heap := ((show Zdq X.prog X.w H s.heap a (.ext (Zen a xs)) from I.hok a _ h3)).1
 have hz : xs.length ≤ sizeLine := by rw [← Prd.len P]; exact h2
 refine wpAny_setItem_pairs (knd := Zu5 X.prog X.w) (k := k) (hsz := hz) (Zmb (k := k) (t := tk)) (dd X.prog X.w) fun h' dd' hs => ?_
 have L : Le X.K H ι (upd H a (.ext (Zen a (stored xs k u)))) ι := Le.upd (Wbi ha) h3 trivial _
 have dA : Zen a (stored xs k u) h' := Zpn dd'
 obtain ⟨ob, es, ep, g1, _⟩ := id dd'
 have ok : Zdq X.prog X.w (upd H a (.ext (Zen a (stored xs k u)))) h' a (.ext (Zen a (stored xs k u))) := ⟨dA, ⟨ob, g1⟩, fun h1 h2 d k => Zen.keep d k⟩
 have hr' : HRep X.K (upd H a (.ext (Zen a (stored xs k u)))) ι (Hd.set n (.dci (Ztf kvs k vd))) := by
  refine hr.upd ha h3 trivial ⟨h1, ?_, _, upd_same, ?_⟩
  ·have := Zts kvs k vd; omega
  ·exact Zuf (Prd.imp P fun p x _ z => ⟨z.1, let ⟨v, z1, z2⟩ := z.2; ⟨v, z1, z2.mono L⟩⟩) rv (r3.mono L)
 exact ⟨_, I.write (x := a) (e := a) (by rw [h3]; exact True.intro) (.inl rfl) (fun b q hb z => (hs.2 b hb).trans z) ⟨ob, g1⟩ ok, q _ ι L hr'⟩
nonrec def eDI : EF := fun _ H => some (.ref H.length, H ++ [.dci []])
theorem Zsl {pos : Pos} : PEf X (.Dict [] [] pos) eDI := by
 rintro pins s σ H Q I ⟨ι, σd, Hd, d, Hd', sr, hr, e, q⟩
 cases e
 have hb : sysModules < s.heap.objs.size := Nat.lt_trans (by decide) (show mainGlobals < s.heap.objs.size from (I.mod.glob.keeps I.bk).lt)
 have hp := I.hok.fresh (Xc s.heap.objs.size)
 have dn : Zen s.heap.objs.size [] (s.heap.push { cls := .type "dict", data := .dict #[] }) := fun p w => Heap.DictOf.new (knd := Zu5 p w) s.heap
 have ok : Zdq X.prog X.w (upd H s.heap.objs.size (.ext (Zen s.heap.objs.size []))) (s.heap.push { cls := .type "dict", data := .dict #[] }) s.heap.objs.size (.ext (Zen s.heap.objs.size [])) := ⟨dn, ⟨_, Xf _ rfl⟩, fun h1 h2 d k => Zen.keep d k⟩
 refine wpAny_Dict_empty ⟨.ref s.heap.objs.size, _, I.laid (a := s.heap.objs.size) (o := .ext (Zen s.heap.objs.size [])) (t' := s.toks) (fun _ _ q => Xb _ q) (Xc _) ok, rfl, ?_⟩
 have hl : ι.length = Hd.length := hr.len
 exact q _ _ (ι ++ [s.heap.objs.size]) (Le.fresh1 hp _) (hr.new hp ⟨beq_eq_false_iff_ne.mpr (Ui (Xo hb)), Wak _, [], upd_same, .nil⟩) (Za4.mpr ⟨_, rfl, by rw [← hl]; simp⟩)
end
open PySem.W (KasT kas_rev kas_asc kas_desc kas_tail3 kas_descPart kas_count kas_place kas_bin kas_sort)
section
variable {n : Nat}
variable (h0 : 0 < n)
include h0
end
open PySem.W (KdlSrc)
def Zw3 (d : Ve) (es : Array Uab) (ep : Nat) (h : Vu) : Prop := (d == sysModules) = false ∧ ∃ o, h.get? d = some o ∧ o.ExactDict ∧ o.data = .dict es ep
theorem Zw3.mv {d : Ve} {es : Array Uab} {ep : Nat} {h h' : Vu} (x : Zw3 d es ep h) (k : ∀ o, h.get? d = some o -> h'.get? d = some o) : Zw3 d es ep h' := let ⟨a, o, e, r⟩ := x; ⟨a, o, k o e, r⟩
section
variable {prog : Vf} {w : Vk} {A : Vo} {E : Vb -> Vd -> Prop} {s : Vd}
theorem Zua (hh : A.handled = none) (I d : Ve) (ne : d ≠ I) (es : Array Uab) (ep : Nat) :
  Walks prog w A I [I, d] [I] es.size (fun i v => ∃ e, es[i]? = some e ∧ v = e.key) (fun i h => h.IsKeyIter I d i es.size ep ∧ Zw3 d es ep h) where
 sub := fun b hb => by simp at hb; simp [hb]
 frame := fun _ _ _ st hk => ⟨st.1.at fun o e => hk I (by simp) o e, st.2.mv fun o e => hk d (by simp) o e⟩
 item := fun i s _ _ hi st hQ => by
  obtain ⟨_, ob, g1, g2, g3⟩ := st.2
  refine Zxw st.1 g1 g3 hi fun h' hit' hs' => ?_
  exact hQ _ h' s.toks ⟨es[i], by simp [hi], rfl⟩ ⟨hit', st.2.mv fun o e => hs'.extBut d o ne e⟩ fun b o hb e => hs'.extBut b o (fun h => hb (by simp [h])) e
 done := fun s Q E st hQ => by
  obtain ⟨_, ob, g1, g2, g3⟩ := st.2
  exact Zux hh st.1 g1 g3 (Xc _) fun h' he' => hQ h' s.toks fun b o hb e => he' b o (fun h => hb (by simp [h])) e
 self := fun _ _ _ _ st r => wpAny_pyIter_keyiter st.1 r
theorem Zz0 {d : Ve} {es : Array Uab} {ep : Nat} : KdlSrc prog w "dict" d d es.size (fun i v => ∃ e, es[i]? = some e ∧ v = e.key) (Zw3 d es ep) where
 type := fun _ ⟨_, o, e, x, _⟩ => ⟨o, e, x.1⟩
 there := fun _ ⟨_, o, e, _⟩ => ⟨Xe e, Xe e⟩
 keep := fun _ _ x k => x.mv fun o e => k d (.inl rfl) o e
 notList := by decide
 notTuple := by decide
 hint := fun _ _ _ _ ⟨_, o, e, x, _⟩ r => PySem.W.kdl_hint_dict ⟨o, e, x.1⟩ r
 iter := fun _ s hh x => by
  obtain ⟨h0, ob, g1, g2, g3⟩ := id x
  exact ⟨_, _, (fun _ _ hq => Zt6 h0 g1 g2 g3 hq), Zua hh _ d (Xo (Xe g1)) es ep, ⟨⟨_, Xf _ rfl, rfl, rfl⟩, x.mv fun o e => Xb _ e⟩⟩
theorem Znw {d : Ve} {es : Array Uab} {ep : Nat} {R : List Vb -> Vd -> Prop} (hh : A.handled = none) (x : Zw3 d es ep s.heap) (hz : es.size ≤ sizeLine)
  (h : ∀ h' tk, (∀ b o, s.heap.get? b = some o -> h'.get? b = some o) -> s.heap.objs.size ≤ h'.objs.size -> R (es.toList.map (·.key)) { s with heap := h', toks := tk }) : wpAny (model prog w) A (collect (.ref d)) R E s := by
 have hN : (s.heap.push (seqObj "list" #[] 0)).get? s.heap.objs.size = some (seqObj "list" #[] 0) := Xf _ rfl
 have dl : d < s.heap.objs.size := let ⟨_, _, e, _⟩ := x; Xe e
 unfold collect
 refine Va (wpAny_runValue (Uan entry_proto_collect' (show wpAny _ _ (do again (.builtin "list.__iadd__" ⟨[← newList [], .ref d], []⟩)) _ _ s from Va (Ubf (Vc ⟨Taj _ (by decide +kernel), Uan entry_list_iadd' ?_⟩)))))
 show wpAny _ _ (Uw (.ref s.heap.objs.size) (.ref d) (.ref s.heap.objs.size)) _ _ { s with heap := s.heap.push (seqObj "list" #[] 0) }
 rw [Around.under_plainId (show plainId "list.__iadd__" = true by decide +kernel)]
 have E1 : wpAny (model prog w) A.in1 (Uw (.ref s.heap.objs.size) (.ref d) (.ref s.heap.objs.size)) _ _ { s with heap := s.heap.push (seqObj "list" #[] 0) } := PySem.W.kdl_extend (s := { s with heap := s.heap.push (seqObj "list" #[] 0) }) (R := fun r s' => r = .ok (.ret (.ref s.heap.objs.size)) ∧ wpAny (model prog w) A (load s.heap.objs.size) (fun o s2 => ∃ xs ep, o.data = .seq xs ep ∧ R xs.toList s2) E s') (Zz0 (ep := ep)) hh (x.mv fun o e => Xb _ e) s.heap.objs.size (Ui (Xo dl)) (Ui (Xo dl)) (.ref s.heap.objs.size) 0 hN (fun h' tk acc c k1 k2 hi => by
  have ea : acc.toList = es.toList.map (·.key) := by
   apply List.ext_getElem?
   intro i
   rw [Waf, Wee, Wee]
   by_cases hl : i < es.size
   ·have la : i < acc.size := by rw [hi.1]; exact hl
    obtain ⟨e, e1, e2⟩ := hi.2 i acc[i] (Wcc la)
    rw [Wcc la, e1, e2]
    rfl
   ·rw [Wcs (by rw [hi.1]; omega), Wcs (by omega)]
    rfl
  refine ⟨rfl, wpAny_load k2 ⟨acc, c, rfl, ?_⟩⟩
  rw [ea]
  exact h h' tk (fun b o e => k1 b o (Xo (Xe e)) (Xb _ e)) (Wdy (Xe k2))) hz
 have fin : ∀ s', wpAny (model prog w) A (load s.heap.objs.size) (fun o s2 => ∃ xs ep, o.data = .seq xs ep ∧ R xs.toList s2) E s' → wpAny (model prog w) A (do match (← load s.heap.objs.size).data with | .seq xs _ => pure xs.toList | _ => unsupported "internal:collect") R E s' := fun s' z => by
  refine Va (Vn z (fun o s2 ⟨xs, ep, e1, e2⟩ => ?_) fun _ _ x => x)
  rw [e1]
  exact Vc e2
 refine Vn E1 (fun f s' z => ?_) (fun e s' z => ?_)
 ·cases f with
  | done f =>
   obtain ⟨z1, z2⟩ := z
   cases z1
   exact fin s' z2
  | again c =>
   refine ⟨z.1, Uad z.2 fun r s2 z => ?_⟩
   obtain ⟨rfl, z2⟩ := z
   exact fin s2 z2
 ·cases z.1
end
end DL
namespace DL
open PySem PySem.Spec PyProof.Rows L2 PySem.W
def TrD (h B : Vu) (e : Ve) (C : Vb) (dx : Option Ve) (fl : Vb) : Prop :=
 ∃ oe vs T oT ts, (h.get? e = some oe ∧ oe.cls = C ∧ oe.dict = dx ∧ oe.data = .fields vs ∧ vs[1]? = some (.ref T)) ∧ B.get? T = none ∧ T ≠ e ∧ h.get? T = some oT ∧ oT.data = .fields ts ∧ ts[3]? = some fl
structure FlyD (B : Vu) (l : List Env) (e : Ve) (C : Vb) (dx : Option Ve) (fl : Vb) (h : Vu) : Prop where
 st : B.StaysIn h
 no : B.get? e = none
 ff : h.FunFrames B l
 tr : TrD h B e C dx fl
theorem FlyD.first {B : Vu} {l : List Env} {e : Ve} {C : Vb} {dx : Option Ve} {fl : Vb} {h : Vu} (x : FlyD B l e C dx fl h) : ∃ oe vs, h.get? e = some oe ∧ oe.cls = C ∧ oe.data = .fields vs ∧ oe.dict = dx := by
 obtain ⟨oe, vs, _, _, _, ⟨h1, h2, h3, h4, _⟩, _⟩ := x.tr
 exact ⟨oe, vs, h1, h2, h4, h3⟩
theorem FlyD.tail {B : Vu} {env : Env} {l : List Env} {e : Ve} {C : Vb} {dx : Option Ve} {fl : Vb} {h : Vu} (x : FlyD B (env :: l) e C dx fl h) : FlyD B l e C dx fl h := ⟨x.st, x.no, x.ff.2.2, x.tr⟩
theorem Zi6 (f : Array Vb -> Array Vb) (o : Obj) : (Taf f o).dict = o.dict := by
 unfold Taf
 split <;> rfl
section
variable {M : Ucf} {A : Vo} {E : Vb -> Vd -> Prop} {s : Vd} {B : Vu} {env : Env} {outer l : List Env} {L e : Ve} {C : Vb} {dx : Option Ve} {fl : Vb} {Q : Unit -> Vd -> Prop}
theorem Zqk {oe : Obj} {vs : Array Vb} {hd : Vb} {nx : Bool} (hfr : A.frames = some (env :: outer)) (hf : env.frame = some L) (ff : s.heap.FunFrames B (env :: outer)) (st : B.StaysIn s.heap) (no : B.get? e = none)
  (he : s.heap.get? e = some oe) (hv : oe.data = .fields vs) (hz : 1 < vs.size) (q : ∀ h', FlyD B (env :: outer) e oe.cls oe.dict (rawInt L) h' -> s.heap.UpToSlots h' -> Q () { s with heap := h' }) :
  wpAny M A (frameOf env >>= fun a => entryPlaceOf L nx >>= fun pl => EntryCells.newEntry hd a .none (rawInt L) .none pl >>= fun b => setField (.ref e) 1 b) Q E s := by
 have nf : e ∉ (env :: outer).filterMap (·.frame) := fun z => by
  obtain ⟨_, o, g, n⟩ := ff.mem z
  rw [he] at g
  cases g
  exact n vs hv
 refine Va (wpAny_frameOf_fun hfr ff hf fun h1 s1 => Va (wpAny_entryPlaceOf fun pl hpl => ?_))
 unfold EntryCells.newEntry newFields
 refine Va (Vi ?_ (hpl.sizeOk5 _ _ _ _ _))
 obtain ⟨oT, hoT⟩ : ∃ o : Obj, o = { cls := .type "traceback", dict := none, data := .fields ([hd, .ref L, .none, rawInt L, .none] ++ (if pl.isEmpty then Xg 6 Ur else pl)).toArray } := ⟨_, rfl⟩
 have e1 : h1.get? e = some oe := (s1.2.1 e nf).trans he
 have b1 : B.StaysIn h1 := fun b o z => (s1.2.1 b fun y => by rw [(ff.mem y).1] at z; cases z).trans (st b o z)
 rw [← hoT]
 have e2 := Xb (h := h1) oT e1
 refine Uaf e2 hv hz (q _ ?_ ?_)
 all_goals
  have nT : h1.objs.size ≠ e := Wbt (Xe e1)
  have v3 := Taa hv (·.setIfInBounds 1 (Ud h1.objs.size))
  have e3 := Wbg (Taf (·.setIfInBounds 1 (Ud h1.objs.size))) e2 (Tal v3)
  have lf : oT.isFreed = false := by rw [hoT]; rfl
  have t3 := (Waw (h1.push oT) (Taf (·.setIfInBounds 1 (Ud h1.objs.size))) (Ui nT)).trans (Xf h1 lf)
  have kp : ∀ b o, b ≠ e -> h1.get? b = some o -> ((h1.push oT).update e (Taf (·.setIfInBounds 1 (Ud h1.objs.size)))).get? b = some o := fun b o n z => by
   rw [Waw _ _ (Ui n)]
   exact Xb _ z
  have nr : ∀ b o, s.heap.get? b = some o -> (∀ vs, o.data ≠ .fields vs) -> b ≠ e := fun b o z n y => by
   rw [y, he] at z
   cases z
   exact n vs hv
 ·refine ⟨fun b o z => kp b o (fun y => by rw [y, no] at z; cases z) (b1 b o z), no, ff.of_keeps fun b o z n => ?_, ?_⟩
  ·obtain ⟨sl, g⟩ := s1.2.2 b o z
   exact ⟨_, kp b _ (nr b o z n) g, rfl⟩
  ·refine ⟨_, _, h1.objs.size, oT, _, ⟨e3, Tbq _ _, Zi6 _ _, v3, by simp [hz]⟩, b1.fresh, nT, t3, by rw [hoT], ?_⟩
   first
   | (simp; done)
   | (rcases hpl with rfl | ⟨_, _, _, _, _, _, _, rfl⟩ <;> simp)
 ·intro b o z n
  obtain ⟨sl, g⟩ := s1.2.2 b o z
  exact ⟨sl, kp b _ (nr b o z n) g⟩
theorem Zwy {oe : Obj} {vs : Array Vb} (hfr : A.frames = some (env :: outer)) (hf : env.frame = some L) (ff : s.heap.FunFrames B (env :: outer)) (st : B.StaysIn s.heap) (no : B.get? e = none)
  (he : s.heap.get? e = some oe) (hv : oe.data = .fields vs) (h1 : vs[1]? = some .none) (q : ∀ h', FlyD B (env :: outer) e oe.cls oe.dict (rawInt L) h' -> s.heap.UpToSlots h' -> Q () { s with heap := h' }) : wpAny M A (noteFrame (.ref e) env) Q E s := by
 unfold noteFrame
 simp only [hf]
 refine Va (Vj he hv h1 ?_)
 rw [if_neg (by decide)]
 exact Zqk hfr hf ff st no he hv (Wbl.mp h1).1 q
theorem Zq7 (hfr : A.frames = some (env :: outer)) (hf : env.frame = some L) (x : FlyD B (env :: outer) e C dx .none s.heap) (q : ∀ h', FlyD B (env :: outer) e C dx (rawInt L) h' -> s.heap.UpToSlots h' -> Q () { s with heap := h' }) : wpAny M A (noteFrame (.ref e) env) Q E s := by
 obtain ⟨oe, vs, T, oT, ts, ⟨g1, rfl, rfl, g4, g5⟩, k1, k2, k3, k4, k5⟩ := x.tr
 unfold noteFrame
 simp only [hf]
 refine Va (Vj g1 g4 g5 ?_)
 rw [if_pos (by simp)]
 refine Va (Vj k3 k4 k5 ?_)
 rw [if_neg (by simp [rawInt])]
 refine Va (Uaf k3 k4 (Wbl.mp k5).1 ?_)
 have ot : ∀ b, b ≠ T -> (s.heap.update T (Taf (·.setIfInBounds 3 Ur))).get? b = s.heap.get? b := fun b n => Waw _ _ (Ui n)
 have nr : ∀ b o, s.heap.get? b = some o -> (∀ vs, o.data ≠ .fields vs) -> b ≠ T := fun b o z n y => by
  rw [y, k3] at z
  cases z
  exact n ts k4
 refine Zqk hfr hf (x.ff.of_keeps fun b o z n => ⟨o, (ot b (nr b o z n)).trans z, rfl⟩) (fun b o z => (ot b fun y => by rw [y, k1] at z; cases z).trans (x.st b o z)) x.no ((ot e (Ui k2)).trans g1) g4 (Wbl.mp g5).1 fun h' y up => q h' y ?_
 exact fun b o z n => up b o ((ot b (nr b o z n)).trans z) n
theorem Ze8 (x : FlyD B l e C dx fl s.heap) (q : ∀ h', FlyD B l e C dx .none h' -> s.heap.UpToSlots h' -> Q () { s with heap := h' }) : wpAny M A (setFlight (.ref e) none) Q E s := by
 obtain ⟨oe, vs, T, oT, ts, ⟨g1, g2, g3, g4, g5⟩, k1, k2, k3, k4, k5⟩ := x.tr
 have sz := (Wbl.mp k5).1
 have ot : ∀ b, b ≠ T -> (s.heap.update T (Taf (·.setIfInBounds 3 ((none : Option Ve).elim Ur fun f => rawInt f)))).get? b = s.heap.get? b := fun b n => Waw _ _ (Ui n)
 have nr : ∀ b o, s.heap.get? b = some o -> (∀ vs, o.data ≠ .fields vs) -> b ≠ T := fun b o z n y => by
  rw [y, k3] at z
  cases z
  exact n ts k4
 unfold setFlight
 refine Va (Vj g1 g4 g5 ?_)
 rw [if_pos (by simp)]
 have v3 := Taa k4 (·.setIfInBounds 3 ((none : Option Ve).elim Ur fun f => rawInt f))
 refine Uaf k3 k4 sz (q _ ⟨fun b o z => (ot b fun y => by rw [y, k1] at z; cases z).trans (x.st b o z), x.no, x.ff.of_keeps fun b o z n => ⟨o, (ot b (nr b o z n)).trans z, rfl⟩, ?_⟩ fun b o z n => ⟨o.slots, (ot b (nr b o z n)).trans z⟩)
 exact ⟨oe, vs, T, _, _, ⟨(ot e (Ui k2)).trans g1, g2, g3, g4, g5⟩, k1, k2, Wbg _ k3 (Tal v3), v3, by simp [sz]⟩
theorem Ztm {oe : Obj} {vs : Array Vb} (hfr : A.frames = some (env :: outer)) (hf : env.frame = some L) (ff : s.heap.FunFrames B (env :: outer)) (st : B.StaysIn s.heap) (no : B.get? e = none)
  (he : s.heap.get? e = some oe) (hv : oe.data = .fields vs) (h1 : vs[1]? = some .none) (q : ∀ h', FlyD B outer e oe.cls oe.dict .none h' -> s.heap.UpToSlots h' -> Q () { s with heap := h' }) : wpAny M A (leaving env (.ref e)) Q E s := by
 unfold leaving
 refine Va (Zwy hfr hf ff st no he hv h1 fun h2 x u => ?_)
 exact Ze8 (s := { s with heap := h2 }) x fun h3 x3 u3 => q h3 x3.tail (u.trans u3)
theorem Zy2 (hfr : A.frames = some (env :: outer)) (hf : env.frame = some L) (x : FlyD B (env :: outer) e C dx .none s.heap) (q : ∀ h', FlyD B outer e C dx .none h' -> s.heap.UpToSlots h' -> Q () { s with heap := h' }) : wpAny M A (leaving env (.ref e)) Q E s := by
 unfold leaving
 refine Va (Zq7 hfr hf x fun h2 y u => ?_)
 exact Ze8 (s := { s with heap := h2 }) y fun h3 x3 u3 => q h3 x3.tail (u.trans u3)
end
nonrec def vE : List Vb := [.type "ValueError", .type "Exception", .type "BaseException", .type "object"]
nonrec def Zt9 (K : Ucd) (C Cl : Ve) : Bool := match K.lookup C with
 | some ⟨.type "type", _, .cls c, l⟩ => (match l.toList with
  | [_, _, _, _, some (.builtin n), _] => n == "ValueError.__new__" && !c.hasDel && c.hasDict && c.mro == .ref C :: .ref Cl :: vE && tailIn K vE (.ref Cl :: vE)
  | _ => false)
 | _ => false
structure IniC (h : Vu) (C Cl : Ve) (c : Ubv) : Prop where
 obj : ∃ nm q N bs sn sub ab col dd k0 k1 k2 k3 k5, h.get? C = some (excClassObj nm q C N bs (.ref Cl :: vE) true sn sub ab col dd k0 k1 k2 k3 k5 "ValueError.__new__") ∧ c = { name := nm, bases := bs, mro := .ref C :: .ref Cl :: vE, ns := N, qualname := q, hasDict := true, slotNames := sn, subclasses := sub, abstract := ab, collection := col, hasDel := false }
 tail : OwnTail h vE (.ref Cl :: vE)
theorem Zji {K : Ucd} {h : Vu} {C Cl : Ve} (X : K.In h) (q : Zt9 K C Cl = true) : ∃ c, clsIn K C = some c ∧ IniC h C Cl c := by
 unfold Zt9 at q
 split at q
 ·rename_i dd c l e
  split at q
  ·rename_i k0 k1 k2 k3 n k5 e2
   simp only [Xv, beq_iff_eq, Wfb] at q
   obtain ⟨⟨⟨⟨rfl, q2⟩, q3⟩, q4⟩, q5⟩ := q
   refine ⟨c, by unfold clsIn; rw [e], ?_, tail_of_in X q5⟩
   obtain ⟨nm, bs, mro, ns, qn, hd, sn, sub, ab, col, del⟩ := c
   dsimp only at q2 q3 q4
   subst q2 q3 q4
   obtain ⟨l⟩ := l
   simp only at e2
   subst e2
   exact ⟨nm, qn, ns, bs, sn, sub, ab, col, dd, k0, k1, k2, k3, k5, X _ _ e, rfl⟩
  ·cases q
 ·cases q
section
variable {prog : Vf} {w : Vk} {A : Vo} {R : Result -> Vd -> Prop} {h : Vu} {g : Array GenState} {d : Drawn} {t : Nat} {os : OsState} {C Cl fI : Ve} {c : Ubv} {rest : List Vb}
nonrec abbrev Zky (C : Ve) (dx : Option Ve) (t : Ve) : Obj := { cls := .ref C, dict := dx, data := .fields #[.ref t, .none, .none, .none, .bool false, .none] }
theorem Zy7 (Y : IniC h C Cl c) (hi : Ucg (model prog w) h (typeLookup (.ref C) "__init__") (some (.ref fI))) (hb : ∀ self, Ucg (model prog w) h (bindSpecial (.ref fI) self) (.ref fI, [self])) (hr : rest.length ≤ sizeLine)
  (hq : codeAny (model prog w) (A.under (.builtin "type.__call__" ⟨.ref C :: rest, []⟩)) (.call (.ref fI) ⟨.ref (h.objs.size + 1) :: rest, []⟩) (InitBack (h.objs.size + 1) R) ⟨(h.push { cls := .type "tuple", data := .seq rest.toArray }).push (Zky C none h.objs.size), g, d, t, os⟩) :
  codeAny (model prog w) A (.call (.ref C) ⟨rest, []⟩) R ⟨h, g, d, t, os⟩ := by
 obtain ⟨nm, q, N, bs, sn, sub, ab, col, dd, k0, k1, k2, k3, k5, hC, rfl⟩ := Y.obj
 have T := Y.tail
 have F := Tbk
 have f1 := tc_lookup
 have f2 := tc_bind (.ref C)
 have hT : (⟨h, g, d, t, os⟩ : Vd).TypeIs (.ref C) "type" := ⟨_, hC, rfl⟩
 refine codeAny_of_tree ?_
 show wpAny _ _ (callAny (.ref C) _) _ _ _
 repeat (any_goals (first | assumption | with_reducible refine Uah hC ?_ | wp_step))
 refine ⟨rfl, codeAny_call_builtin_at (Taj _ (by decide +kernel)) entry_typeCall (wpAny_check_type_call_sub hC ?_)⟩
 show wpAny _ _ (Builtin.«type.__call__» ⟨.ref C :: rest, []⟩) _ _ _
 repeat (first | with_reducible refine Uah hC ?_ | with_reducible refine wpAny_madeBy_exc hC ?_ | wp_step)
 refine codeAny_call_builtin_code (Taj _ F.quiet) (wpAny_check_new_subT F T hC (codeAny_exc_new_subT F T hC ?_ hr))
 show wpAny _ _ _ _ _ _
 have k : ∀ b o, h.get? b = some o → ((h.push { cls := .type "tuple", data := .seq rest.toArray }).push (Zky C none h.objs.size)).get? b = some o := fun b o e => Xb _ (Xb _ e)
 have hC1 := k _ _ hC
 have hx : ((h.push { cls := .type "tuple", data := .seq rest.toArray }).push (Zky C none h.objs.size)).get? (h.objs.size + 1) = some { cls := .ref C, data := .fields #[.ref h.objs.size, .none, .none, .none, .bool false, .none] } := by heap_get
 have hcC : (Ud C :: Ud Cl :: vE).contains (.ref C) = true := by simp
 unfold isInstance
 repeat (first | with_reducible refine Uah hx ?_ | (with_reducible refine wpAny_isSubtype_exc hC1 ?_; rw [hcC]) | wp_step)
 show wpAny _ _ (typeLookup (.ref C) _) _ _ _
 refine (hi.keeps k).at ?_
 refine Vr (Va (((hb _).keeps k).at ?_))
 refine Va (Uaj (Uad hq fun r s' z => ?_))
 rcases r with e | (v | _ | _ | _) <;> first | exact z | exact z.elim | skip
 obtain ⟨rfl, z⟩ := z
 exact Vc (Vc z)
end
section
variable {prog : Vf} {w : Vk} {A : Vo} {E : Vb -> Vd -> Prop} {s : Vd} {K : Ucd} {C Cl e tt : Ve} {c : Ubv} {f : Str} {u : Vb}
theorem Zza {Q : Vb -> Vd -> Prop} (Y : IniC s.heap C Cl c) (he : s.heap.get? e = some (Zky C none tt))
  (q : ∀ h' t', (∀ b o, b ≠ e → s.heap.get? b = some o → h'.get? b = some o) → h'.get? e = some (Zky C none t') → Q .none { s with heap := h' }) : wpAny (model prog w) A (call (.builtin "ValueError.__init__") [.ref e, u]) Q E s := by
 obtain ⟨h, g, d, t, os⟩ := s
 obtain ⟨nm, qn, N, bs, sn, sub, ab, col, dd, k0, k1, k2, k3, k5, hC, rfl⟩ := Y.obj
 have F := Tbk
 have he' : h.get? e = some { cls := .ref C, data := .fields #[.ref tt, .none, .none, .none, .bool false, .none] } := he
 refine Uaj (Uaa F.init.plain F.initEntry (wpAny_check_init_subT F Y.tail hC he' rfl ?_))
 wp_walk
 refine q _ h.objs.size (fun b o n z => ?_) ?_
 ·rw [Waw _ _ (Ui n)]
  exact Xb _ z
 ·rw [Wbg _ (Xb _ he') rfl]
  rfl
theorem Zr7 (self : Vb) (C Cl : Ve) : refuseLoop self "__setattr__" (.ref C :: .ref Cl :: vE) = pure () := by
 rw [refuseLoop_ref, refuseLoop_ref]
 unfold vE
 kernel_rfl
theorem Ybq {Q : Unit → Vd → Prop} (X : K.In s.heap) (hc : clsIn K C = some c) (Y : IniC s.heap C Cl c) (he : s.heap.get? e = some (Zky C none tt)) (hs : findIn K (.ref C) "__setattr__" = some (some (.builtin "object.__setattr__"))) (hf : findIn K (.ref C) f = some none)
  (q : ∀ h' dx, s.heap.get? dx = none -> h'.get? e = some (Zky C (some dx) tt) -> h'.Ns1 dx (fun y => if y = f then some u else none) -> (∀ b o, b ≠ e -> s.heap.get? b = some o -> h'.get? b = some o) -> Q () { s with heap := h', toks := s.toks + 2 }) :
  wpAny (model prog w) A (setAttr (.ref e) f u) Q E s := by
 obtain ⟨nm, qn, N, bs, sn, sub, ab, col, dd, k0, k1, k2, k3, k5, hC, rfl⟩ := Y.obj
 have J : InstAt s.heap e (Zky C none tt) C none := ⟨he, rfl, rfl, True.intro⟩
 have hm : Ucg (model prog w) s.heap (mroOf (.ref C)) (.ref C :: .ref Cl :: vE) := (looks_clsIn X hc).andThen .now
 have sb : Ucg (model prog w) s.heap (isInstance (.ref e) (.type "object")) true := J.type.andThen (looks_mroIn X (by unfold mroIn; rw [hc, Zb, if_neg (by simp)]; rfl))
 have SF := PySem.F.store_object
 refine set_plain X J hs (Uaa SF.slot.plain SF.entry (@check_slot (model prog w) _ _ { s with toks := s.toks + 1 } "object.__setattr__" "object" "__setattr__" (.ref e) [.str f s.toks, u] [] _ SF.kind SF.split sb (SF.args (.ref e) (.str f s.toks) u) ?_))
 rw [osa_eq, refuse_eq]
 refine Va (Va (J.type.here (s := { s with toks := s.toks + 1 }) (Va (hm.here (s := { s with toks := s.toks + 1 }) ?_))))
 rw [Zr7]
 refine Vc (Va (J.type.here (s := { s with toks := s.toks + 1 }) (Va ((Uai (M := model prog w) X hf).here (s := { s with toks := s.toks + 1 }) (Va (Vc ?_))))))
 dsimp only
 refine Va (Vc (Va (Va (wpAny_loadPart (s := { s with toks := s.toks + 1 }) he (Va (Looks.here (s := { s with toks := s.toks + 1 }) (looks_clsIn (M := model prog w) X hc) ?_))))))
 rw [if_neg (by simp)]
 show wpAny _ _ (alloc emptyDict >>= fun d => update e (fun o => { o with dict := some d }) >>= fun _ => dictMade (.ref C) e d) _ _ _
 have he1 := Xb (h := s.heap) emptyDict he
 refine Va (wpAny_alloc (Va (wpAny_update (o := Zky C none tt) he1 ?_)))
 have ne : s.heap.objs.size ≠ e := Wbt (Xe he)
 have k1 : ∀ b o, b ≠ e -> (s.heap.push emptyDict).get? b = some o -> ((s.heap.push emptyDict).update e fun o => { o with dict := some s.heap.objs.size }).get? b = some o := fun b o n z => by
  rw [Waw _ _ (Ui n)]; exact z
 have e1 := k1 _ _ ne (Xf s.heap (o := emptyDict) rfl)
 have e2 : ((s.heap.push emptyDict).update e fun o => { o with dict := some s.heap.objs.size }).get? e = some (Zky C (some s.heap.objs.size) tt) := by
  rw [Wbg _ he1 rfl]
 have n1 : ((s.heap.push emptyDict).update e fun o => { o with dict := some s.heap.objs.size }).Ns1 s.heap.objs.size fun _ => none := Heap.Ns1.of_empty ⟨emptyDict, #[], _, e1, rfl, (fun y hy => absurd hy (by simp)), fun _ => rfl⟩
 show wpAny _ _ (pure (some s.heap.objs.size)) _ _ _
 refine Vc (Va (Vc (Va (wpAny_nsSet1 n1 fun h' n2 s2 => ?_))))
 obtain ⟨oD, esD, epD, g1, g2, g3⟩ := n2.count (ns := [f]) fun y hy => by
  by_cases z : y = f
  ·simp [z]
  ·rw [if_neg z] at hy; exact absurd rfl hy
 refine Va (wpAny_lookBehind g1 (by rw [g2]; exact pastItsLine_dict (Xp g3 (by rw [Uae]; simp))) (Vc ?_))
 refine q h' s.heap.objs.size (Wdc (Xc _)) ((s2.2 _ (Ui ne)).trans e2) n2 fun b o n z => ?_
 rw [s2.2 b (Xo (Xe z))]
 exact k1 b o n (Xb _ z)
end
section
variable {prog : Vf} {w : Vk} {A : Vo} {E : Vb -> Vd -> Prop} {s : Vd} {K : Ucd} {C x : Ve} {ox od : Obj} {f : Str} {v : Vb} {ex : Bool}
theorem Zt4 {Q : Vb -> Vd -> Prop} (L : ExcL K C) (X : K.In s.heap) (I : InstAt s.heap x ox C (some od)) (hf : findObj K C (some od) f = some (.value v)) (hv : handedIn v = true) (q : Q v { s with toks := s.toks + 1 }) : wpAny (model prog w) A (getAttr (.ref x) f ex) Q E s := by
 obtain ⟨hh, g, d, t, os⟩ := s
 have L0 := I.type (M := model prog w)
 have L1 := Uai (M := model prog w) X L.ga
 have L2 := Uai (M := model prog w) X L.gr
 have LF := looks_find (M := model prog w) X I hf
 have LS := looks_subIn (M := model prog w) X L.sb
 unfold getAttr getAttrBy
 refine Va (wpAny_mkText (Vr (Va (L0.at (Va (L1.at ?_))))))
 show wpAny _ _ (if (onTheHeap (Ud C) && (Us "BaseException.__getattribute__" == Us "object.__getattribute__")) = true then _ else _) _ _ _
 have n2 : (Us "BaseException.__getattribute__" == Us "object.__getattribute__") = false := by decide +kernel
 rw [if_neg (by rw [n2, Wdb]; exact Wai)]
 unfold getAttrByItsOwn hookBefore
 rw [if_pos (by rfl)]
 refine Va (L2.at (Va (Vz (Vr ?_))))
 unfold callGetattribute
 have n3 : (ex && onTheHeap (Us "BaseException.__getattribute__")) = false := by cases ex <;> rfl
 rw [if_neg (by rw [n3]; exact Wai)]
 unfold boundAndCalled
 have LI : Ucg (model prog w) hh (isInstance (.ref x) (.type "BaseException")) true := L0.andThen LS
 rw [Tag.ga.bind (.ref x)]
 refine Va (Vc ?_)
 show wpAny _ _ (call (.builtin "BaseException.__getattribute__") [.ref x, .str f t]) _ _ _
 refine Uaj (Uaa Tag.ga.plain Tby ?_)
 have b1 : builtinKind "BaseException.__getattribute__" = some .slot := by decide +kernel
 have b2 : splitId "BaseException.__getattribute__" = some ("BaseException", "__getattribute__") := by decide +kernel
 have b3 := Tcc (.ref x) (.str f t)
 simp only [checkBuiltinCall, b1, b2]
 refine Va (LI.at ?_)
 repeat (first | (with_reducible refine L0.at ?_) | (with_reducible refine LF.at ?_) | wp_step)
 exact handed_on hv q
end
structure FlyY (l : List Env) (H H1 : Hp) (h0 h1 : Vu) (a : Ve) (C : Vb) (dx : Option Ve) : Prop where
 new : h0.get? a = none
 fly : ∃ B : Vu, FlyD B l a C dx .none h1 ∧ (∀ b o, h0.get? b = some o -> b ∉ frs l -> ∃ o', B.get? b = some o' ∧ (H b = none -> o' = o)) ∧ ∀ b ho, H1 b = some ho -> ∃ o, h1.get? b = some o ∧ B.get? b = some o
nonrec def CXy (P : Vf) (w : Vk) : CXT := fun outer H s E e s' => ∃ (a : Ve) (C : Vb) (dx : Option Ve) (H1 : Hp), e = .ref a ∧ E C dx H1 ∧ s'.os = s.os ∧ Uau s'.gens ∧ Un (frs outer) [] H H1 s.heap s'.heap ∧ HOk P w H1 s'.heap ∧ FlyY outer H H1 s.heap s'.heap a C dx
section
variable {P : Vf} {w : Vk} {K : Xa} {mg : Str -> Option Vb} {base : Vu} {N : List Str} {qual : Str} {scope : Ubi} {f : Ve} {cd : Vb} {A : Vo} {outer : List Env} {s s1 : Vd} {H H1 : Hp} {E : XK} {pins : List (Ve × Obj)} {σ : L2.St}
theorem Zqz {e : Ve} {oe : Obj} {vs : Array Vb} (I : Inv (Zfy (CXy P w) P w K mg base N qual scope f cd A outer s H E) pins σ H1 s1) (he : s1.heap.get? e = some oe) (hv : oe.data = .fields vs) (h1 : vs[1]? = some .none) (n1 : H1 e = none) (new : s.heap.get? e = none) (q : E oe.cls oe.dict H1) :
  (Zfy (CXy P w) P w K mg base N qual scope f cd A outer s H E).xe (.ref e) s1 := by
 have hS := I.stack
 have fr := I.ok.frames
 obtain ⟨L, hL⟩ : ∃ L, L = e :: frs (Zfy (CXy P w) P w K mg base N qual scope f cd A outer s H E).stack := ⟨_, rfl⟩
 have hF : s1.heap.FunFrames (hideAll s1.heap L) (Zfy (CXy P w) P w K mg base N qual scope f cd A outer s H E).stack := funFrames_hide hS fun env he b hb => by rw [hL]; exact Xw _ (Wbx.mpr ⟨env, he, hb⟩)
 refine Ztm (B := hideAll s1.heap L) fr rfl hF (fun b o z => of_hideAll _ z) (hideAll_none _ (by rw [hL]; exact Wav ..)) he hv h1 fun h2 f1 f4 => ?_
 have nf : ∀ b ho, H1 b = some ho -> b ∉ L := fun b ho eb z => by
  rw [hL] at z
  rcases Xn.mp z with rfl | z
  ·rw [n1] at eb; cases eb
  ·rw [I.stkFree b z] at eb; cases eb
 have kp : ∀ b o, s1.heap.get? b = some o -> b ∉ L -> h2.get? b = some o := fun b o eb z => f1.st b o (hideAll_get _ eb z)
 have old : ∀ b o, s.heap.get? b = some o -> b ∉ frs outer -> b ∉ L := fun b o eb z y => by
  rw [hL] at y
  rcases Xn.mp y with rfl | y
  ·rw [new] at eb; cases eb
  ·rcases Xn.mp (I.stkSub b y) with rfl | y
   ·exact absurd (Xl (Xe eb) I.ok.above) (Wbd _)
   ·exact z y
 have fram : ∀ b o, b ∈ frs (Zfy (CXy P w) P w K mg base N qual scope f cd A outer s H E).stack -> s1.heap.get? b = some o -> ∃ sl, h2.get? b = some { o with slots := sl } := fun b o z eb => by
  obtain ⟨_, o', g1, g3⟩ := hS.mem z
  rw [eb] at g1
  cases g1
  exact f4 b o eb g3
 refine ⟨e, oe.cls, oe.dict, H1, rfl, q, I.os, I.bare, ⟨fun b o eb n nb _ => kp b o (I.base.keep b o eb n nb (by rintro z; cases z)) (old b o eb nb), fun b o eb n hb _ => ?_, fun b o eb n _ => I.base.free b o eb n (by intro z; cases z), fun b o eb _ => ?_, I.base.tups, I.base.frzs, I.base.tbls⟩, fun b ho eb => ?_, ⟨new, _, f1, fun b o eb nb => ?_, fun b ho eb => ?_⟩⟩
 ·obtain ⟨sl, g⟩ := I.base.slot b o eb n hb (by intro z; cases z)
  obtain ⟨sl', g'⟩ := fram b _ (Xw _ hb) g
  exact ⟨sl', g'⟩
 ·obtain ⟨o1, g⟩ := I.base.there b o eb (by intro z; cases z)
  by_cases z : b ∈ frs (Zfy (CXy P w) P w K mg base N qual scope f cd A outer s H E).stack
  ·obtain ⟨sl, g'⟩ := fram b o1 z g
   exact ⟨_, g'⟩
  ·refine ⟨o1, kp b o1 g fun y => ?_⟩
   rw [hL] at y
   rcases Xn.mp y with rfl | y
   ·rw [new] at eb; cases eb
   ·exact z y
 ·exact (I.hok b ho eb).stay (fun c u hc g => kp c u g (by
   rcases hc with rfl | hc
   ·exact nf _ _ eb
   ·exact nf _ _ hc)) (fun _ z => z) (fun _ _ z => z)
 ·obtain ⟨o1, g⟩ := I.base.there b o eb (by intro z; cases z)
  refine ⟨o1, hideAll_get _ g (old b o eb nb), fun n => ?_⟩
  exact Waa.inj (g.symm.trans (I.base.keep b o eb n nb (by intro z; cases z)))
 ·obtain ⟨o, g⟩ := (I.hok b ho eb).here
  exact ⟨o, kp b o g (nf b ho eb), hideAll_get _ g (nf b ho eb)⟩
theorem Zsn {s' : Vd} {H0 : Hp} {a : Ve} {C : Vb} {dx : Option Ve} (I : Inv (Zfy (CXy P w) P w K mg base N qual scope f cd A outer s H E) pins σ H0 s1) (os : s'.os = s1.os) (bare : Uau s'.gens) (un : Un (frs (Zfy (CXy P w) P w K mg base N qual scope f cd A outer s H E).stack) [] H0 H1 s1.heap s'.heap) (hok : HOk P w H1 s'.heap)
  (fl : FlyY (Zfy (CXy P w) P w K mg base N qual scope f cd A outer s H E).stack H0 H1 s1.heap s'.heap a C dx) (q : E C dx H1) : (Zfy (CXy P w) P w K mg base N qual scope f cd A outer s H E).xe (.ref a) s' := by
 obtain ⟨B, fly, bo, bt⟩ := fl.fly
 have fr := I.ok.frames
 refine Zy2 fr rfl fly fun h2 f1 up => ?_
 obtain ⟨un2, ok2⟩ := Zmf un hok bo bt f1.st up fly.ff
 have old : ∀ b o, s.heap.get? b = some o -> b ∉ frs outer -> b ∉ frs (Zfy (CXy P w) P w K mg base N qual scope f cd A outer s H E).stack := fun b o eb z y => by
  rcases Xn.mp (I.stkSub b y) with rfl | y
  ·exact absurd (Xl (Xe eb) I.ok.above) (Wbd _)
  ·exact z y
 have u : Un (frs (Zfy (CXy P w) P w K mg base N qual scope f cd A outer s H E).stack) [] H H1 s.heap h2 := (I.base.mono (fun b hb => Xw _ hb) (fun b hb => hb)).trans un2
 refine ⟨a, C, dx, H1, rfl, q, os.trans I.os, bare, ⟨fun b o eb n nb hx => u.keep b o eb n (old b o eb nb) hx, fun b o eb n hb hx => u.slot b o eb n (Xw _ hb) hx, u.free, u.there, u.tups, u.frzs, u.tbls⟩, ok2, ⟨?_, B, f1, fun b o eb nb => ?_, fun b ho eb => ?_⟩⟩
 ·cases z : s.heap.get? a with
  | none => rfl
  | some o =>
   obtain ⟨o1, g⟩ := I.base.there a o z (by intro y; cases y)
   rw [fl.new] at g; cases g
 ·obtain ⟨o1, g⟩ := I.base.there b o eb (by intro z; cases z)
  obtain ⟨o', g', z⟩ := bo b o1 g (old b o eb nb)
  refine ⟨o', g', fun n => ?_⟩
  rw [z (I.base.free b o eb n (by intro z; cases z))]
  exact Waa.inj (g.symm.trans (I.base.keep b o eb n nb (by intro z; cases z)))
 ·obtain ⟨o, g, g'⟩ := bt b ho eb
  exact ⟨o, f1.st b o g', g'⟩
end
section
variable {M : Ucf} {A : Vo} {E : Vb -> Vd -> Prop} {s : Vd} {env : Env} {C Cl : Ve} {c : Ubv} {x : Vq} {pos : Pos} {Q : Flow -> Vd -> Prop}
theorem Zrt (hh : A.handled = none) (h : wpAny M A (eval x env) (fun v s1 => ∃ e dx t, v = .ref e ∧ IniC s1.heap C Cl c ∧ s1.heap.get? e = some (Zky C dx t) ∧ E (.ref e) s1) E s) : wpAny M A (exec (.Raise (some x) none pos) env) Q E s := by
 rw [arm_exec_Raise]
 simp only [evalOpt, Option.map]
 refine Va (Uas ?_)
 unfold raiseStmt
 refine Va (Va (Vn h (fun v s1 h1 => Va (Uas (Vc ?_))) fun _ _ y => y))
 obtain ⟨e, dx, t, rfl, Y, he, hE⟩ := h1
 obtain ⟨nm, q, N, bs, sn, sub, ab, col, dd, k0, k1, k2, k3, k5, hC, rfl⟩ := Y.obj
 obtain ⟨hp, g, d, tk, os⟩ := s1
 have he' : hp.get? e = some { cls := .ref C, dict := dx, data := .fields #[.ref t, .none, .none, .none, .bool false, .none] } := he
 have hcB : (Ud C :: Ud Cl :: vE).contains (.type "BaseException") = true := by rw [Wew, Wew]; rfl
 repeat (first | with_reducible refine Uah he' ?_ | with_reducible refine Uah hC ?_ | (with_reducible refine wpAny_isSubtype_exc hC ?_; rw [hcB]) | wp_step)
 exact wpAny_raiseNew_none hh hE
end
nonrec def XE (C : Ve) (dx : Option Ve) (e : Ve) : HO := .ext fun h => ∃ t, h.get? e = some (Zky C dx t)
theorem Zyu {P : Vf} {w : Vk} {H : Hp} {h : Vu} {C e t : Ve} {dx : Option Ve} (g : h.get? e = some (Zky C dx t)) : Zdq P w H h e (XE C dx e) :=
 ⟨⟨t, g⟩, ⟨_, g⟩, fun h1 h2 ⟨t1, g1⟩ k => ⟨t1, k _ g1⟩⟩
theorem Zy5 {P : Vf} {w : Vk} {H : Hp} {h : Vu} {C e : Ve} {dx : Option Ve} (ok : HOk P w H h) (z : H e = some (XE C dx e)) : ∃ t, h.get? e = some (Zky C dx t) := (ok e _ z).1
structure ExI (K : Ucd) (C Cl fI : Ve) (f : Str) : Prop where
 xin : Zt9 K C Cl = true
 init : findIn K (.ref C) "__init__" = some (some (.ref fI))
 fn : typeIn K (.ref fI) = some (.type "function")
 sa : findIn K (.ref C) "__setattr__" = some (some (.builtin "object.__setattr__"))
 nf : findIn K (.ref C) f = some none
 ga : specialIn K (.ref Cl) "__getattribute__" = some (some (.builtin "type.__getattribute__"))
 rd : readsIn K Cl (.type "type") = true
 fc : findCls K (.ref Cl) (.type "type") "__init__" = some (.val (.builtin "ValueError.__init__"))
section
variable {X : Cx} {C Cl fI : Ve} {f : Str}
theorem Zp9 (a b : Str) : (a ++ b).length = a.length + b.length := by
 show (a.cps ++ b.cps).size = _
 rw [Wfa]; rfl
nonrec def tMsg (i : Nat) : TE := fun σ H Q => ∃ n : Int, σ[i]? = some (some (.int n)) ∧ n.natAbs < 1000000 ∧ ∀ x, Q (.str x) H
theorem Ybp {i : Nat} {x c1 c2 : Str} {j1 j2 : Nat} {p1 p2 p3 p4 pos : Pos} (hi : X.N[i]? = some x) (hv : Vis X.env.scope x) (h1 : c1.length ≤ 1000) (h2 : c2.length ≤ 1000) (hd : (x == ("__debug__" : Str)) = false := by decide) (hd2 : (x == ("__classdict__" : Str)) = false := by decide) :
  PE X (.JoinedStr [.Constant (.str c1) j1 p1, .FormattedValue (.Name x p2) (-1) none p3, .Constant (.str c2) j2 p4] pos) (tMsg i) := by
 rintro pins s σ H Q I ⟨n, hn, hb, q⟩
 have z0 : Str.empty ++ c1 = c1 := by
  show Str.mk (#[] ++ c1.cps) = c1
  rw [Weu]
 have sz : sizeLine = 16777216 := Uae
 have ln : (toString n : Str).length ≤ 13 := by
  have := PySem.PyData.shown_int_le (i := n) (by omega)
  exact this
 refine JoinedStr_many (Ubt (thn (Zrz (X := X) pins _ σ H (fun v H2 => v = .str c1 ∧ H2 = H) I ⟨rfl, rfl⟩) fun u1 s1 z => ?_))
 obtain ⟨v1, H1, I1, r1, rfl, rfl⟩ := z
 obtain ⟨t1, rfl⟩ := r1
 show (Str.empty ++ c1).length ≤ sizeLine ∧ _
 rw [z0]
 refine ⟨by omega, Ubt (FormattedValue_plain (thn (Zgg (X := X) hi hv hd hd2 pins s1 σ H1 (fun v H2 => v = .int n ∧ H2 = H1) I1 ⟨_, hn, rfl, rfl⟩) fun u2 s2 z => ?_))⟩
 obtain ⟨v2, H2, I2, r2, rfl, rfl⟩ := z
 obtain ⟨t2, rfl⟩ := r2
 refine formatField_int_small ?_ ?_
 ·have : n.natAbs.log2 ≤ 20 := by
   rcases Nat.eq_zero_or_pos n.natAbs with z | z
   ·rw [z]; decide
   ·have := (Nat.log2_lt (by omega)).mpr (show n.natAbs < 2 ^ 21 by omega)
    omega
  omega
 have l1 := Zp9 c1 (toString n)
 refine ⟨by omega, Ubt (thn (Zrz (X := X) pins _ σ H2 (fun v H3 => v = .str c2 ∧ H3 = H2) (I2.tok _) ⟨rfl, rfl⟩) fun u3 s3 z => ?_)⟩
 obtain ⟨v3, H3, I3, r3, rfl, rfl⟩ := z
 obtain ⟨t3, rfl⟩ := r3
 have l2 := Zp9 (c1 ++ toString n) c2
 exact ⟨by omega, joinParts_nil ⟨.str _, H3, I3.tok _, ⟨_, rfl⟩, q _⟩ (by omega)⟩
nonrec def tBase (C : Ve) (ta : TA) : TE := fun σ H Q => ta σ H fun vs H1 => ∃ e x, vs = [.ref e, .str x] ∧ H1 e = some (XE C none e) ∧ Q .non (upd H1 e (XE C none e))
theorem Zyv {pl : Sem Bool} {bn : Str} {e : Vq} {es : List Vq} {ta : TA} {p apos pos : Pos} (T : ExI X.K C Cl fI f) (hg : Gl X bn) (hm : X.mg bn = some (.ref Cl)) (ha : PA X (e :: es) ta)
  (hdb : (bn == ("__debug__" : Str)) = false := by decide) (hst : starEach (e :: es) X.env = (false, eval e X.env) :: starEach es X.env := by rfl) (hpl : (backTo pos (starEach es X.env)).any (·.1) = false := by rfl)
  (ht : eval (.Call (.Attribute (.Name bn p) "__init__" apos) (e :: es) [] pos) X.env = (do
   let ov ← eval (.Name bn p) X.env
   standAt apos.atName
   let (f, first) ← holding [ov] (getMethod ov "__init__" pl)
   callWith pos f first (backTo pos (starEach (e :: es) X.env)) (backToKw pos (keywordEach [] X.env))) := by rfl) :
  PE X (.Call (.Attribute (.Name bn p) "__init__" apos) (e :: es) [] pos) (tBase C ta) := by
 intro pins s σ H Q I h
 refine PySem.W.methodCall_KW (pl := pl) (Zek I hg hm ?_ hdb) ht
 refine method_cls I.kIn T.ga (cls_value I.kIn T.rd T.fc rfl ?_)
 refine Tax (thn (ha pos pins _ σ H _ (I.tok _) h) fun us s1 ⟨vs, H1, I1, r1, e', x, hvs, hH, q⟩ => ?_) hst hpl
 subst hvs
 obtain ⟨u1, u2, rfl, r2, r3⟩ := Zqt r1
 have r2 : u1 = .ref e' := r2
 subst r2
 obtain ⟨t, g⟩ := Zy5 I1.hok hH
 obtain ⟨c, hc, Y⟩ := Zji I1.kIn T.xin
 refine Zza Y g fun h' t' k g' => ?_
 refine ⟨.non, _, I1.write (x := e') (e := e') (t' := s1.toks) (by rw [hH]; exact True.intro) (.inl rfl) (fun b u n z => k b u n z) ⟨_, g'⟩ (Zyu g'), rfl, q⟩
nonrec def tSetX (C : Ve) (f : Str) (ta tv : TE) : TS := fun D σ H => tv σ H fun y H1 => ta σ H1 fun x H2 => ∃ e, x = .ref e ∧ H2 e = some (XE C none e) ∧ ∀ dx, H2 dx = none -> dx ≠ e -> D.nx σ (upd (upd H2 dx (.xd [(f, y)])) e (XE C (some dx) e))
theorem Inv.xdict {pins : List (Ve × Obj)} {σ : L2.St} {H : Hp} {s : Vd} {h' : Vu} {e dx t : Ve} {y : V} {u : Vb} {t' : Nat} (I : Inv X pins σ H s) (he : H e = some (XE C none e)) (new : s.heap.get? dx = none) (g : h'.get? e = some (Zky C (some dx) t)) (n1 : h'.Ns1 dx fun z => if z = f then some u else none) (ry : Zca y u)
  (k : ∀ b o, b ≠ e -> s.heap.get? b = some o -> h'.get? b = some o) : Inv X pins σ (upd (upd H dx (.xd [(f, y)])) e (XE C (some dx) e)) { s with heap := h', toks := t' } := by
 have hn : H dx = none := by
  cases z : H dx with
  | none => rfl
  | some ho =>
   obtain ⟨o, q⟩ := (I.hok dx ho z).here
   rw [new] at q; cases q
 have ne : dx ≠ e := fun z => by rw [z, he] at hn; cases hn
 have stay : ∀ b ho, H b = some ho -> b ≠ e -> upd (upd H dx (.xd [(f, y)])) e (XE C (some dx) e) b = some ho := fun b ho z n => by
  rw [Zai n, Zai (fun q => by rw [q, hn] at z; cases z)]; exact z
 refine I.un ⟨fun b o eb n _ _ => k b o (fun z => by rw [z, he] at n; cases n) eb, fun b o eb n _ _ => ⟨o.slots, k b o (fun z => by rw [z, he] at n; cases n) eb⟩, fun b o eb n _ => ?_, fun b o eb _ => ?_, fun b xs z => stay b _ z (fun q => by rw [q, he] at z; cases z), fun b o u z => stay b _ z (fun q => by rw [q, he] at z; cases z), fun b ps z => ⟨#[], by rw [stay b _ z (fun q => by rw [q, he] at z; cases z)]; simp⟩⟩ fun b ho z => ?_
 ·rw [Zai (fun q => by rw [q, he] at n; cases n), Zai (fun q => by rw [q, new] at eb; cases eb)]; exact n
 ·by_cases q : b = e
  ·subst q; exact ⟨_, g⟩
  ·exact ⟨o, k b o q eb⟩
 ·by_cases q : b = e
  ·subst q
   rw [upd_same] at z
   cases z
   exact Zyu g
  ·rw [Zai q] at z
   by_cases q2 : b = dx
   ·subst q2
    rw [upd_same] at z
    cases z
    refine ⟨_, n1, fun f' => ?_⟩
    by_cases q3 : f' = f
    ·subst q3
     show RelO (Wch f' [(f', y)]) (if f' = f' then some u else none)
     rw [if_pos rfl, Wef]
     exact ry
    ·show RelO (Wch f' [(f, y)]) (if f' = f then some u else none)
     rw [if_neg q3]
     have : Wch f' [(f, y)] = none := by
      have : (f' == f) = false := beq_false_of_ne q3
      simp [Wch, this]
     rw [this]
     exact True.intro
   ·rw [Zai q2] at z
    refine (I.hok b ho z).stay (fun c v hc r => k c v ?_ r) (fun c r => stay c _ r fun q4 => by rw [q4, he] at r; cases r) fun c xs r => stay c _ r fun q4 => by rw [q4, he] at r; cases r
    rcases hc with rfl | hc
    ·exact q
    ·intro q4; rw [q4, he] at hc; cases hc
theorem Zxn {o value : Vq} {ta tv : TE} {pos pos' : Pos} (T : ExI X.K C Cl fI f) (ha : PE X o ta) (hv : PE X value tv) (hs : swapsWith value (some (.Attribute o f pos')) pos.line X.env = pure false) : PS X (.Assign [.Attribute o f pos'] value pos) (tSetX C f ta tv) := by
 intro pins s σ H D I h
 refine plainObj_wpAny_Assign_Attribute (thn (hv pins s σ H _ I h) fun u s1 ⟨y, H1, I1, ry, q⟩ => thn (ha pins s1 σ H1 _ I1 q) fun ov s2 ⟨x, H2, I2, rx, e, ex, he, q2⟩ => ?_) hs
 subst ex
 have rx : ov = Ud e := rx
 subst rx
 obtain ⟨t, g⟩ := Zy5 I2.hok he
 obtain ⟨c, hc, Y⟩ := Zji I2.kIn T.xin
 refine Ybq I2.kIn hc Y g T.sa T.nf fun h' dx new g' n1 k => ?_
 have hn : H2 dx = none := by
  cases z : H2 dx with
  | none => rfl
  | some ho =>
   obtain ⟨o, q⟩ := (I2.hok dx ho z).here
   rw [new] at q; cases q
 exact ⟨σ, _, Inv.xdict I2 he new g' n1 ry k, q2 dx hn fun z => by rw [z, he] at hn; cases hn⟩
end
nonrec def spI (C : Ve) (f : Str) : Sp := fun vs H Q _ => ∃ (e : Ve) (n : Int), vs = [.ref e, .int n] ∧ n.natAbs < 1000000 ∧ H e = some (XE C none e) ∧ ∀ dx, H dx = none -> dx ≠ e -> Q .non (upd (upd H dx (.xd [(f, .int n)])) e (XE C (some dx) e))
theorem Ybv {P : Vf} {w : Vk} {K : Ucd} {mg : Str -> Option Vb} {base : Vu} {C Cl fI : Ve} {f qual ln : Str} {st : Vw} {fd : Vy} {k : Nat} {c1 c2 : Str} {j1 j2 : Nat} {p1 p2 p3 p4 p5 p6 p7 p8 p9 p10 q1 q2 q3 q4 : Pos}
  (T : ExI K C Cl fI f) (hm : mg "ClaimError" = some (.ref Cl)) (F : Fun K "__init__" qual st fI fd) (S : FnScope ["self", ln] ["self", ln] (Zad st))
  (hb : Zb7 st = [.Expr (.Call (.Attribute (.Name "ClaimError" p1) "__init__" p2) [.Name "self" p3, .JoinedStr [.Constant (.str c1) j1 q1, .FormattedValue (.Name ln q2) (-1) none q3, .Constant (.str c2) j2 q4] p4] [] p5) p6, .Assign [.Attribute (.Name "self" p7) f p8] (.Name ln p9) p10])
  (h1 : c1.length ≤ 1000) (h2 : c2.length ≤ 1000) (sS : (Zad st).names.lookup ("self" : Str) = some .local) (sL : (Zad st).names.lookup ln = some .local) (sB : (Zad st).names.lookup ("ClaimError" : Str) = some .globalImplicit)
  (ht : ∀ (L : Ve) (cdv : Vb), ∃ pl, eval (.Call (.Attribute (.Name "ClaimError" p1) "__init__" p2) [.Name "self" p3, .JoinedStr [.Constant (.str c1) j1 q1, .FormattedValue (.Name ln q2) (-1) none q3, .Constant (.str c2) j2 q4] p4] [] p5) (envOfC qual (Zad st) L fI cdv) = (do
   let ov ← eval (.Name "ClaimError" p1) (envOfC qual (Zad st) L fI cdv)
   standAt p2.atName
   let (f, first) ← holding [ov] (getMethod ov "__init__" pl)
   callWith p5 f first (backTo p5 (starEach [.Name "self" p3, .JoinedStr [.Constant (.str c1) j1 q1, .FormattedValue (.Name ln q2) (-1) none q3, .Constant (.str c2) j2 q4] p4] (envOfC qual (Zad st) L fI cdv))) (backToKw p5 (keywordEach [] (envOfC qual (Zad st) L fI cdv)))))
  (d3 : (ln == ("__debug__" : Str)) = false := by decide) (d4 : (ln == ("__classdict__" : Str)) = false := by decide) :
  FnOk P w K mg base CX0 (k + 1) fI fd ["self", ln] (spI C f) := by
 refine F.ok (N := ["self", ln]) S (fun vs H Q E ⟨e, n, z, _⟩ => by rw [z]; rfl) fun cdv A outer s H vs Q E hr zz => ?_
 obtain ⟨e, n, hvs, hn, he, q⟩ := zz
 subst hvs
 rw [hb]
 obtain ⟨pl, ht⟩ := ht s.heap.objs.size cdv
 have e1 : PE (Zfy CX0 P w K mg base ["self", ln] qual (Zad st) fI cdv A outer s H E).nox (.Call (.Attribute (.Name "ClaimError" p1) "__init__" p2) [.Name "self" p3, .JoinedStr [.Constant (.str c1) j1 q1, .FormattedValue (.Name ln q2) (-1) none q3, .Constant (.str c2) j2 q4] p4] [] p5) _ := Zyv (pl := pl) T sB hm (Zcz (Zgg (i := 0) rfl (.inl sS)) (Zcz (Ybp (i := 1) rfl (.inl sL) h1 h2 d3 d4) Zjj rfl) rfl) (by decide) rfl rfl ht
 have s1 := Zq2 (pos := p6) e1 rfl
 have s2 := Zxn (X := (Zfy CX0 P w K mg base ["self", ln] qual (Zad st) fI cdv A outer s H E).nox) (pos := p10) (pos' := p8) T (Zgg (pos := p7) (x := "self") (i := 0) rfl (.inl sS)) (Zgg (pos := p9) (x := ln) (i := 1) rfl (.inl sL) d3 d4) rfl
 refine ⟨_, Zf1 s1 (Zyh s2), ?_⟩
 refine ⟨.ref e, rfl, n, rfl, hn, fun x => ⟨e, x, rfl, he, .int n, rfl, .ref e, rfl, e, rfl, upd_same, fun dx h3 h4 => ?_⟩⟩
 rw [Zai h4] at h3
 have eq : upd (upd (upd H e (XE C none e)) dx (.xd [(f, .int n)])) e (XE C (some dx) e) = upd (upd H dx (.xd [(f, .int n)])) e (XE C (some dx) e) := by
  funext b
  unfold upd
  by_cases z : b = e
  ·rw [if_pos z, if_pos z]
  ·rw [if_neg z, if_neg z, if_neg z]
 show Q .non _
 rw [eq]
 exact q dx h3 h4
section
variable {X : Cx} {C Cl fI : Ve} {f : Str}
theorem Inv.drop {pins : List (Ve × Obj)} {σ : L2.St} {H : Hp} {s : Vd} {e : Ve} {φ : Vu -> Prop} (I : Inv X pins σ H s) (he : H e = some (.ext φ)) (new : X.s₀.heap.get? e = none) : Inv X pins σ (fun b => if b = e then none else H b) s := by
 have k : ∀ b ho, H b = some ho -> b ≠ e -> (if b = e then none else H b) = some ho := fun b ho z n => by rw [if_neg n]; exact z
 have fr : ∀ b, H b = none -> (if b = e then none else H b) = none := fun b z => by split <;> first | rfl | exact z
 refine ⟨I.ok, I.os, I.bare, ⟨I.base.keep, I.base.slot, fun b o eb n hx => fr b (I.base.free b o eb n hx), I.base.there, fun b xs z => ?_, fun b o u z => ?_, fun b ps z => ?_⟩, I.loc, I.cell, fr _ I.free, fun x c z => fr c (I.freeC x c z), fun p hp => ?_, fun b ho z => ?_, I.len⟩
 ·have z := I.base.tups b xs z
  exact k b _ z fun q => by rw [q, he] at z; cases z
 ·have z := I.base.frzs b o u z
  exact k b _ z fun q => by rw [q, he] at z; cases z
 ·obtain ⟨m, z⟩ := I.base.tbls b ps z
  exact ⟨m, k b _ z fun q => by rw [q, he] at z; cases z⟩
 ·obtain ⟨a1, a2, a3⟩ := I.pin p hp
  exact ⟨a1, fr _ a2, a3⟩
 ·split at z
  ·cases z
  ·rename_i n
   exact (I.hok b ho z).stay (fun c v _ r => r) (fun c r => k c _ r fun q => by rw [q, he] at r; cases r) fun c xs r => k c _ r fun q => by rw [q, he] at r; cases r
nonrec def tXM (h0 : Vu) (C : Ve) (f : Str) (ta : TA) : TE := fun σ H Q => ta σ H fun vs H1 => ∃ n : Int, vs = [.int n] ∧ n.natAbs < 1000000 ∧ ∀ e dx, H1 e = none -> H1 dx = none -> dx ≠ e -> h0.get? e = none -> Q (.ref e) (upd (upd H1 dx (.xd [(f, .int n)])) e (XE C (some dx) e))
theorem Ztv {k : Nat} {fd : Vy} {ps : List Str} {x : Str} {e : Vq} {ta : TA} {p pos : Pos} (T : ExI X.K C Cl fI f) (F : FnOk X.prog X.w X.K X.mg X.base CX0 k fI fd ps (spI C f)) (hr : Room (k + 1) X.A) (hg : Gl X x) (hm : X.mg x = some (.ref C)) (hk : keepIn X.K (.ref C) = true) (hb : Zfl X.K fd ps []) (ha : PA X [e] ta)
  (hdb : (x == ("__debug__" : Str)) = false := by decide) (he : starEach [e] X.env = (false, eval e X.env) :: starEach [] X.env := by exact Zau rfl) (hpl : (backTo pos (starEach [] X.env)).any (·.1) = false := by rfl) : PE X (.Call (.Name x p) [e] [] pos) (tXM X.s₀.heap C f ta) := by
 intro pins s σ H Q I h
 refine Vt (Zek I hg hm ?_ hdb)
 refine Wbo (h₀ := X.base) I.ok.mod.kin hk (thn (ha pos pins s σ H _ I h) fun us s1 ⟨vs, H1, I1, r, n, hvs, hn, q⟩ => ⟨I1.kIn, ?_⟩) he hpl
 subst hvs
 obtain ⟨u, rfl, ru⟩ := Zhl r
 obtain ⟨c, hc, Y⟩ := Zji I1.kIn T.xin
 obtain ⟨h1, g1, d1, t1, o1⟩ := s1
 have kp : ∀ b o, h1.get? b = some o → ((h1.push { cls := .type "tuple", data := .seq [u].toArray }).push (Zky C none h1.objs.size)).get? b = some o := fun b o z => Xb _ (Xb _ z)
 have hx : ((h1.push { cls := .type "tuple", data := .seq [u].toArray }).push (Zky C none h1.objs.size)).get? (h1.objs.size + 1) = some (Zky C none h1.objs.size) := by heap_get
 have I2 := I1.laid (a := h1.objs.size + 1) (o := XE C none (h1.objs.size + 1)) (t' := t1) kp (Wci _) (Zyu hx)
 have hn1 : H1 (h1.objs.size + 1) = none := I1.hok.fresh (Wci _)
 have r2 : Zbp [V.ref (h1.objs.size + 1), V.int n] [Ud (h1.objs.size + 1), u] := .cons rfl (.cons ru .nil)
 have sp : spI C f [V.ref (h1.objs.size + 1), V.int n] (upd H1 (h1.objs.size + 1) (XE C none (h1.objs.size + 1))) (fun v H2 => v = .non ∧ Q (.ref (h1.objs.size + 1)) H2) fun _ _ _ => False := by
  refine ⟨_, n, rfl, hn, upd_same, fun dx z1 z2 => ⟨rfl, ?_⟩⟩
  rw [Zai z2] at z1
  have eq : upd (upd (upd H1 (h1.objs.size + 1) (XE C none (h1.objs.size + 1))) dx (.xd [(f, .int n)])) (h1.objs.size + 1) (XE C (some dx) (h1.objs.size + 1)) = upd (upd H1 dx (.xd [(f, .int n)])) (h1.objs.size + 1) (XE C (some dx) (h1.objs.size + 1)) := by
   funext b
   unfold upd
   by_cases z : b = h1.objs.size + 1
   ·rw [if_pos z, if_pos z]
   ·rw [if_neg z, if_neg z, if_neg z]
  rw [eq]
  exact q _ dx hn1 z1 z2 (Wdc (Xp I1.sz (Wci _)))
 have hl : ([Ud (h1.objs.size + 1), u]).length = ps.length := by
  have e := F.len _ _ _ _ sp
  exact e
 have bd := hb _ [Ud (h1.objs.size + 1), u] I2.kIn (by rw [Xu]; exact hl)
 rw [Xu] at bd
 refine Uaj (Zy7 (C := C) (rest := [u]) Y (Uai I1.kIn T.init) (fun self => bind_fn I1.kIn self T.fn) (by rw [Uae]; simp) (Uad (F.run _ X.stack _ _ ⟨[Ud (h1.objs.size + 1), u], []⟩ [Ud (h1.objs.size + 1), u] [V.ref (h1.objs.size + 1), V.int n] _ _ (hr.make C [u] []) (I2.env0.make C [u] []) bd r2 sp) fun r s' z => ?_))
 cases r with
 | error e => exact z.elim
 | ok fl =>
  cases fl with
  | ret w' =>
   obtain ⟨v, H', I3, rv, ev, q3⟩ := I2.after z
   subst ev
   exact ⟨rv, ⟨V.ref (h1.objs.size + 1), H', I3, rfl, q3⟩⟩
  | next => exact Ue z
  | brk => exact Ue z
  | cont => exact Ue z
end
nonrec abbrev YFs := SD -> HD -> Option (Int × HD)
nonrec abbrev YFF := List D -> HD -> Option (Int × HD)
def Zud (av : Option Str) (i : Int) (dx : Option Ve) (H : Hp) (ι : List Ve) : Prop := match av with
 | none => dx = none
 | some f => ∃ d, dx = some d ∧ H d = some (.xd [(f, .int i)]) ∧ d ∉ ι
def Zxk (fl : Bool) (X : Cx) (C : Ve) (dx : Option Ve) (H1 : Hp) (e : Vb) (s' : Vd) : Prop := ∃ pins σ1 a, e = .ref a ∧ ((fl = false ∧ ∃ oe vs, Inv X pins σ1 H1 s' ∧ s'.heap.get? a = some oe ∧ oe.cls = .ref C ∧ oe.dict = dx ∧ oe.data = .fields vs ∧ vs[1]? = some .none ∧ H1 a = none ∧ X.s₀.heap.get? a = none) ∨
 ∃ s1 H0, Inv X pins σ1 H0 s1 ∧ s'.os = s1.os ∧ Uau s'.gens ∧ Un (frs X.stack) [] H0 H1 s1.heap s'.heap ∧ HOk X.prog X.w H1 s'.heap ∧ FlyY X.stack H0 H1 s1.heap s'.heap a (.ref C) dx)
nonrec def rdY (fl : Bool) (X : Cx) (C : Ve) (av : Option Str) (b : YFs) : TS := fun _ σ H => ∃ ι σd Hd i Hd', SRep X.K H ι σ σd ∧ HRep X.K H ι Hd ∧ b σd Hd = some (i, Hd') ∧
 ∀ H1 ι' dx e s', Le X.K H ι H1 ι' -> HRep X.K H1 ι' Hd' -> Zud av i dx H1 ι' -> Zxk fl X C dx H1 e s' -> X.xe e s'
def PYf (fl : Bool) (X : Cx) (C : Ve) (av : Option Str) (sts : List Vw) (b : YFs) : Prop := PSs X sts (rdY fl X C av b)
nonrec def Zw5 (f : SF) (b : YFs) : YFs := fun σ H => (f σ H).bind fun r => match r.1 with
 | .nx => b r.2.1 r.2.2
 | _ => none
nonrec def yIf (t : TF) (a b : YFs) : YFs := fun σ H => (t σ H).bind fun r => if r.1 then a σ r.2 else b σ r.2
nonrec def yNo : YFs := fun _ _ => none
nonrec def Zjh (fe : EF) : YFs := fun σ H => (fe σ H).bind fun r => match r.1 with
 | .int i => if i.natAbs < 1000000 then some (i, r.2) else none
 | _ => none
nonrec def Zt8 (n N : Nat) (b : YFs) : YFF := fun ds H => if ds.length = n then b (ds.map some ++ Xg (N - ds.length) none) H else none
section
variable {X : Cx} {fl : Bool} {C : Ve} {av : Option Str} {st : Vw} {sts : List Vw} {c : Vq} {pos : Pos}
theorem Zxc {f : SF} {b : YFs} (h1 : PSf X st f) (h2 : PYf fl X C av sts b) : PYf fl X C av (st :: sts) (Zw5 f b) := by
 refine Zzj (Zf1 h1 h2) fun E σ H zz => ?_
 obtain ⟨ι, σd, Hd, i, Hd', s, hr, e, q⟩ := zz
 obtain ⟨⟨f1, σ1, H1⟩, e1, e⟩ := Zo e
 refine ⟨ι, σd, Hd, f1, σ1, H1, s, hr, e1, fun σ' H' ι' l h ss => ?_⟩
 cases f1 with
 | nx => exact ⟨ι', σ1, H1, i, Hd', ss, h, e, fun H2 ι2 dx ex s2 l2 => q H2 ι2 dx ex s2 (l.trans l2)⟩
 | bk => cases e
 | ct => cases e
 | rt d => cases e
def PYS (fl : Bool) (X : Cx) (C : Ve) (av : Option Str) (st : Vw) (b : YFs) : Prop := PS X st (rdY fl X C av b)
theorem Zok {b : YFs} (h : PYS fl X C av st b) : PYf fl X C av (st :: sts) b := Zzj (Zf1 h (Ya9 (sts := sts))) fun E σ H z => z
theorem py_no : PYf fl X C av sts yNo := fun pins s σ H D I ⟨_, _, _, _, _, _, _, e, _⟩ => by cases e
theorem py_if {t : TF} {as bs : List Vw} {a b : YFs} (hc : PTf X c t) (ha : PYf fl X C av as a) (hb : PYf fl X C av bs b) : PYS fl X C av (.If c as bs pos) (yIf t a b) := by
 refine PSi (Yaw hc ha hb) fun E σ H zz => ?_
 obtain ⟨ι, σd, Hd, i, Hd', s, hr, e, q⟩ := zz
 obtain ⟨⟨z, H1⟩, e1, e⟩ := Zo e
 refine ⟨ι, σd, Hd, z, H1, s, hr, e1, fun H' ι' l h => ?_⟩
 cases z with
 | true =>
  rw [if_pos rfl]
  exact ⟨ι', σd, H1, i, Hd', s.mono l, h, by simpa using e, fun H2 ι2 dx ex s2 l2 => q H2 ι2 dx ex s2 (l.trans l2)⟩
 | false =>
  rw [if_neg (by simp)]
  exact ⟨ι', σd, H1, i, Hd', s.mono l, h, by simpa using e, fun H2 ι2 dx ex s2 l2 => q H2 ι2 dx ex s2 (l.trans l2)⟩
open Classical in
nonrec def Zf3 (own : Zhn) (g : GF) (b : SF) (yb : YFs) : List D -> YFs
 | [], _, _ => none
 | x :: r, σ, H => if Zct own H then (g x σ H).bind fun p => match b p.1 p.2 with
   | none => yb p.1 p.2
   | some q => match q.1 with
    | .nx => Zf3 own g b yb r q.2.1 q.2.2
    | .ct => Zf3 own g b yb r q.2.1 q.2.2
    | _ => none
  else none
nonrec def Ybh (it : ItF) (g : GF) (b : SF) (yb : YFs) : YFs := fun σ H => (it σ H).bind fun p => Zf3 p.1.2 g b yb p.1.1 σ p.2
theorem Ybd {tg iter : Vq} {body : List Vw} {f : ItF} {g : GF} {b : SF} {yb : YFs} (hp : Ubb (model X.prog X.w) X.A X.env X.xe) (hc : X.calm = true) (hi : PIf X tg iter f) (hg : PGf X tg g) (hb : Zmv X body b) (hy : PYf fl X C av body yb)
  (hs : ∀ x, foldedSetIterable iter X.env x = pure x := by intro _; rfl) : PYS fl X C av (.For tg iter body [] pos) (Ybh f g b yb) := by
 have hbb : PSs X body (fun D σ H => rdS X.K b D σ H ∨ rdY fl X C av yb D σ H) := fun pins s σ H D I z => z.elim (hb pins s σ H D I) (hy pins s σ H D I)
 refine PSi (Zwn hp hc hi hg hbb hs) fun E σ H zz => ?_
 obtain ⟨ι, σd, Hd, i0, Hf, s, hr, e, q⟩ := zz
 obtain ⟨⟨⟨xs, own⟩, H1⟩, e1, e⟩ := Zo e
 refine ⟨ι, σd, Hd, xs, own, H1, s, hr, e1, fun J H0 ι0 l0 h0 it => ?_⟩
 refine ⟨fun i m σ H => m = xs.length - i ∧ i ≤ xs.length ∧ ∃ ι σd Hd, Le X.K H0 ι0 H ι ∧ SRep X.K H ι σ σd ∧ HRep X.K H ι Hd ∧ Zf3 own g b yb (xs.drop i) σd Hd = some (i0, Hf), ⟨xs.length, by simp, Wak _, ι0, σd, H1, Le.refl, s.mono l0, h0, by simpa using e⟩, ?_⟩
 rintro i m σ2 H2 ⟨rfl, hi, ι2, σd2, Hd2, l2, s2, h2, e2⟩
 by_cases hlt : i < xs.length
 ·rw [Wbq hlt, Zf3] at e2
  split at e2
  ·rename_i ok
   obtain ⟨⟨σ3, H3⟩, e3, e2⟩ := Zo e2
   refine .inr ⟨it.go i H2 ι2 Hd2 l2 h2 ok hlt, fun σ' H' => (xs.length - (i + 1) = xs.length - (i + 1) ∧ i + 1 ≤ xs.length ∧ ∃ ι σd Hd, Le X.K H0 ι0 H' ι ∧ SRep X.K H' ι σ' σd ∧ HRep X.K H' ι Hd ∧ Zf3 own g b yb (xs.drop (i + 1)) σd Hd = some (i0, Hf)), fun σ' H' p => ⟨_, by omega, p⟩, fun x H' y => ?_⟩
   obtain ⟨ι3, l3, h3, r3⟩ := it.yld i H2 ι2 Hd2 xs[i] x H' l2 h2 ok (by simp [hlt]) y
   refine ⟨ι3, σd2, Hd2, xs[i], σ3, H3, s2.mono l3, h3, r3, e3, fun σ5 H5 ι5 l5 h5 s5 => ?_⟩
   have L5 : Le X.K H0 ι0 H5 ι5 := (l2.trans l3).trans l5
   cases e4 : b σ3 H3 with
   | none =>
    dsimp only at e2
    rw [e4] at e2
    exact .inr ⟨ι5, σ3, H3, i0, Hf, s5, h5, e2, fun H6 ι6 dx ex s6 l6 => q H6 ι6 dx ex s6 ((l0.trans L5).trans l6)⟩
   | some p =>
    obtain ⟨f4, σ4, H4⟩ := p
    dsimp only at e2
    rw [e4] at e2
    refine .inl ⟨ι5, σ3, H3, f4, σ4, H4, s5, h5, e4, fun σ6 H6 ι6 l6 h6 s6 => ?_⟩
    cases f4 with
    | nx => exact ⟨rfl, hlt, ι6, σ4, H4, L5.trans l6, s6, h6, e2⟩
    | ct => exact ⟨rfl, hlt, ι6, σ4, H4, L5.trans l6, s6, h6, e2⟩
    | bk => cases e2
    | rt d => cases e2
  ·cases e2
 ·rw [Wcr (by omega), Zf3] at e2
  cases e2
theorem Zvi {Cl fI : Ve} {f : Str} {k : Nat} {fd : Vy} {ps : List Str} {x : Str} {e : Vq} {fe : EF} {np cpos : Pos} (hc : X.calm = true) (T : ExI X.K C Cl fI f) (F : FnOk X.prog X.w X.K X.mg X.base CX0 k fI fd ps (spI C f)) (hr : Room (k + 1) X.A) (hm : X.mg x = some (.ref C)) (hk : keepIn X.K (.ref C) = true) (hb : Zfl X.K fd ps [])
  (hf : PAf X [e] (Zaa fe Zae)) (hg : Gl X x := by rfl) (hdb : (x == ("__debug__" : Str)) = false := by decide) (he : starEach [e] X.env = (false, eval e X.env) :: starEach [] X.env := by exact Zau rfl) :
  PYS false X C (some f) (.Raise (some (.Call (.Name x np) [e] [] cpos)) none pos) (Zjh fe) := by
 rintro pins s σ H D I ⟨ι, σd, Hd, i, Hd', ss, hh, eq, q⟩
 obtain ⟨⟨d, H1⟩, e1, e2⟩ := Zo eq
 have z : d = .int i ∧ i.natAbs < 1000000 ∧ H1 = Hd' := by
  dsimp only at e2
  split at e2
  ·rename_i j
   split at e2
   ·rename_i hj; cases e2; exact ⟨rfl, hj, rfl⟩
   ·cases e2
  ·cases e2
 obtain ⟨rfl, hi, rfl⟩ := z
 obtain ⟨c, hc2, _⟩ := Zji I.kIn T.xin
 have ea : Zaa fe Zae σd Hd = some ([.int i], H1) := by unfold Zaa; rw [e1]; rfl
 refine Zrt (C := C) (Cl := Cl) (c := c) (I.ok.hd hc) (Vn (Ztv T F hr hg hm hk hb hf hdb he rfl pins s σ H (fun v H3 => ∃ H2 ι' e dx, v = .ref e ∧ Le X.K H ι H2 ι' ∧ HRep X.K H2 ι' H1 ∧ H2 e = none ∧ H2 dx = none ∧ dx ≠ e ∧ X.s₀.heap.get? e = none ∧ H3 = upd (upd H2 dx (.xd [(f, .int i)])) e (XE C (some dx) e)) I
  ⟨ι, σd, Hd, [.int i], H1, ss, hh, ea, fun vs H' ι' l h P => ?_⟩) (fun v s2 z => ?_) fun _ _ z => z)
 ·obtain ⟨v, rfl, rv⟩ := Zl0 P
  simp at rv
  exact ⟨i, by rw [rv], hi, fun e dx z1 z2 z3 z4 => ⟨H', ι', e, dx, rfl, l, h, z1, z2, z3, z4, rfl⟩⟩
 ·obtain ⟨v, H3, I3, r3, H2, ι', ex, dx, rfl, l, h, z1, z2, z3, new, rfl⟩ := z
  have r3 : _ = Ud ex := r3
  subst r3
  obtain ⟨t, g⟩ := Zy5 I3.hok upd_same
  obtain ⟨c', hc3, Y⟩ := Zji I3.kIn T.xin
  rw [hc2] at hc3
  cases hc3
  have I4 := Inv.drop I3 (e := ex) (upd_same) new
  have eq : (fun b => if b = ex then none else upd (upd H2 dx (.xd [(f, .int i)])) ex (XE C (some dx) ex) b) = upd H2 dx (.xd [(f, .int i)]) := by
   funext b
   by_cases y : b = ex
   ·rw [if_pos y, y, Zai (Ui z3)]; exact z1.symm
   ·rw [if_neg y, Zai y]
  rw [eq] at I4
  refine ⟨ex, some dx, t, rfl, Y, g, q _ ι' (some dx) _ _ (l.trans (Le.fresh z2 _)) (h.tup z2 _) ⟨dx, rfl, upd_same, h.fresh z2⟩ ⟨pins, σ, ex, rfl, .inl ⟨rfl, _, _, I4, g, rfl, rfl, rfl, rfl, ?_, new⟩⟩⟩
  rw [Zai (Ui z3)]; exact z1
nonrec def rdYE (fl : Bool) (X : Cx) (C : Ve) (av : Option Str) (b : YFs) : TE := fun σ H _ => ∃ ι σd Hd i Hd', SRep X.K H ι σ σd ∧ HRep X.K H ι Hd ∧ b σd Hd = some (i, Hd') ∧
 ∀ H1 ι' dx e s', Le X.K H ι H1 ι' -> HRep X.K H1 ι' Hd' -> Zud av i dx H1 ι' -> Zxk fl X C dx H1 e s' -> X.xe e s'
def PYE (fl : Bool) (X : Cx) (C : Ve) (av : Option Str) (e : Vq) (b : YFs) : Prop := PE X e (rdYE fl X C av b)
nonrec def spY (K : Xa) (C : Ve) (av : Option Str) (n : Nat) (F : YFF) : Sp := fun vs H _ E => ∃ ι ds Hd i Hd', ds.length = n ∧ HRep K H ι Hd ∧ Vh (Rep K H ι) ds vs ∧ F ds Hd = some (i, Hd') ∧ ∀ H1 ι' dx, Le K H ι H1 ι' -> HRep K H1 ι' Hd' -> Zud av i dx H1 ι' -> E (.ref C) dx H1
nonrec def Zfe (n : Nat) (F : YFF) (fa : AF) : YFs := fun σ H => (fa σ H).bind fun p => if p.1.length = n then F p.1 p.2 else none
theorem Ztj {f : Ve} {k n : Nat} {fd : Vy} {ps : List Str} {F : YFF} {fa : AF} {x : Str} {a : Vq} {as : List Vq} {p cp : Pos} (G : FnOk X.prog X.w X.K X.mg X.base (CXy X.prog X.w) k f fd ps (spY X.K C av n F)) (hr : Room k X.A) (hg : Gl X x) (hm : X.mg x = some (.ref f)) (hk : Waz X.K (.ref f) = true) (hb : Zfl X.K fd ps []) (ha : PAf X.nox (a :: as) fa)
  (hdb : (x == ("__debug__" : Str)) = false := by decide) (he : starEach (a :: as) X.env = (false, eval a X.env) :: starEach as X.env := by exact Zau rfl) (hpl : (backTo cp (starEach as X.env)).any (·.1) = false := by exact Zbv rfl) : PYE fl X C av (.Call (.Name x p) (a :: as) [] cp) (Zfe n F fa) := by
 rintro pins s σ H D I ⟨ι, σd, Hd, i, H2, ss, hh, eq, q⟩
 obtain ⟨⟨ds, H1⟩, e1, e⟩ := Zo eq
 have hx : ds.length = n ∧ F ds H1 = some (i, H2) := by
  dsimp only at e
  split at e
  ·rename_i z; exact ⟨z, e⟩
  ·cases e
 obtain ⟨e2, e3⟩ := hx
 refine Vt (Zek I hg hm ?_ hdb)
 refine Wbo (h₀ := X.base) I.ok.mod.kin hk (Vn (ha cp pins s σ H (fun vs H' => ∃ ι', Le X.K H ι H' ι' ∧ HRep X.K H' ι' H1 ∧ Vh (Rep X.K H' ι') ds vs) (I.wish _) ⟨ι, σd, Hd, ds, H1, ss, hh, e1, fun vs H' ι' l h P => ⟨ι', l, h, P⟩⟩) (fun us s1 z => ?_) fun _ _ z => z.elim) he hpl
 obtain ⟨vs, H1v, I1, r1, ι1, l1, h1, P1⟩ := z
 have I1 : Inv X pins σ H1v s1 := I1.unwish
 refine ⟨I1.kIn, ?_⟩
 have sp : spY X.K C av n F vs H1v (fun _ _ => False) fun Cv dx H' => Cv = .ref C ∧ ∃ ι', Le X.K H ι H' ι' ∧ HRep X.K H' ι' H2 ∧ Zud av i dx H' ι' := ⟨ι1, ds, H1, i, H2, e2, h1, P1, e3, fun H' ι' dx l h z => ⟨rfl, ι', l1.trans l, h, z⟩⟩
 have hl : us.length = ps.length := by rw [← r1.length]; exact G.len _ _ _ _ sp
 have hb1 := hb s1 us I1.kIn (by rw [Xu]; exact hl)
 rw [Xu] at hb1
 refine Uaj (Uad (G.run X.A X.stack s1 H1v ⟨us, []⟩ us vs _ _ hr I1.env0 hb1 r1 sp) fun r s' hq => ?_)
 cases r with
 | ok fl' =>
  cases fl' with
  | ret u => obtain ⟨v, H', _, _, _, _, _, z⟩ := hq; exact z.elim
  | next => exact Ue hq
  | brk => exact Ue hq
  | cont => exact Ue hq
 | error e =>
  obtain ⟨ex, Cv, dx, H2v, rfl, ⟨rfl, ι2, l2, h2, xd⟩, os, bare, un, hok, fl⟩ := hq
  exact q H2v ι2 dx (.ref ex) s' l2 h2 xd ⟨pins, σ, ex, rfl, .inr ⟨s1, H1v, I1, os, bare, un, hok, fl⟩⟩
theorem Zw8 {e : Vq} {b : YFs} (h : PYE fl X C av e b) : PYS fl X C av (.Return (some e) pos) b := PSi (Zvr h) fun E σ H z => z
end
section
variable {P : Vf} {w : Vk} {K : Xa} {mg : Str -> Option Vb} {base : Vu}
theorem Zus {N : List Str} {qual : Str} {scope : Ubi} {f : Ve} {cd : Vb} {A : Vo} {outer : List Env} {s s' : Vd} {H H1 : Hp} {E : XK} {C : Ve} {dx : Option Ve} {e : Vb} {fl : Bool} (z : Zxk fl (Zfy (CXy P w) P w K mg base N qual scope f cd A outer s H E) C dx H1 e s') (q : E (.ref C) dx H1) :
  (Zfy (CXy P w) P w K mg base N qual scope f cd A outer s H E).xe e s' := by
 obtain ⟨pins, σ1, a, rfl, z⟩ := z
 rcases z with ⟨_, oe, vs, I, g1, g2, g3, g4, g5, g6, g7⟩ | ⟨s1, H0, I, os, bare, un, hok, fl⟩
 ·exact Zqz I g1 g4 g5 g6 g7 (by rw [g2, g3]; exact q)
 ·exact Zsn I os bare un hok fl q
theorem fy_f {x qual : Str} {st : Vw} {f C : Ve} {fd : Vy} {N ps : List Str} {k : Nat} {b : YFs} {av : Option Str} (F : Fun K x qual st f fd) (S : FnScope N ps (Zad st))
  (hb : ∀ (cdv : Vb) (A : Vo) (outer : List Env) (s : Vd) (H : Hp) (E : XK), Room k (A.deeper (envOfC qual (Zad st) s.heap.objs.size f cdv)) →
   PYf false (Zfy (CXy P w) P w K mg base N qual (Zad st) f cdv A outer s H E) C av (Zb7 st) b) : FnOk P w K mg base (CXy P w) (k + 1) f fd ps (spY K C av ps.length (Zt8 ps.length N.length b)) := by
 obtain ⟨oc, od, kV, doc, pm, an, cdv, ct, osl, rfl, lk, hcd⟩ := F.ex
 refine Zzy lk hcd S (fun vs H Q E ⟨ι, ds, Hd, i, Hd', hl, _, r, _⟩ => by rw [← Prd.len r]; exact hl) fun A outer s H vs Q E hr zz => ?_
 obtain ⟨ι, ds, Hd, i, Hd', hl, hh, r, e, q⟩ := zz
 refine ⟨_, hb cdv A outer s H E hr, ?_⟩
 unfold Zt8 at e
 rw [if_pos hl] at e
 refine ⟨ι, _, Hd, i, Hd', ?_, hh, e, fun H1 ι' dx ex s' l h xd z => Zus z (q H1 ι' dx l h xd)⟩
 refine ⟨by simp [L2.start, Prd.len r], fun i d0 h0 => ?_⟩
 unfold L2.start
 by_cases hi : i < ds.length
 ·rw [Xx (by simpa using hi), Waf] at h0
  cases ed : ds[i]? with
  | none => rw [ed] at h0; cases h0
  | some d1 =>
   rw [ed] at h0
   cases h0
   obtain ⟨v, hv, rv⟩ := Prd.get r ed
   refine ⟨v, ?_, rv⟩
   rw [Xx (by rw [Xk, ← Prd.len r]; exact hi), Waf, hv]
   rfl
 ·rw [Waq (by simpa using hi), Wcm] at h0
  split at h0 <;> cases h0
structure FnY (P : Vf) (w : Vk) (K : Xa) (mg : Str -> Option Vb) (base : Vu) (k : Nat) (x : Str) (ps : List Str) (xn : Str) (av : Option Str) (F : YFF) : Prop where
 ex : ∃ f fd, (∀ C, mg xn = some (.ref C) -> FnOk P w K mg base (CXy P w) k f fd ps (spY K C av ps.length F)) ∧ Zfl K fd ps [] ∧ Waz K (.ref f) = true ∧ mg x = some (.ref f)
theorem Ybf {x xn : Str} {st : Vw} {N ps : List Str} {k : Nat} {b : YFs} {av : Option Str} (T : Tf K mg x st) (S : FnScope N ps (Zad st))
  (hbd : ∀ (kV doc pm : Vb) (an : Option Ve) (cdv ct : Vb) (us : List Vb), us.length = ps.length -> bindArgs (Wbp x x (Zev st) (Zb7 st) (Zad st) .none kV doc pm an cdv ct) ⟨us, []⟩ = pure (ps.zip us))
  (hb : ∀ C, mg xn = some (.ref C) -> ∀ (f : Ve) (cdv : Vb) (A : Vo) (outer : List Env) (s : Vd) (H : Hp) (E : XK), Room k (A.deeper (envOfC x (Zad st) s.heap.objs.size f cdv)) →
   PYf false (Zfy (CXy P w) P w K mg base N x (Zad st) f cdv A outer s H E) C av (Zb7 st) b) : FnY P w K mg base (k + 1) x ps xn av (Zt8 ps.length N.length b) := by
 obtain ⟨f, fd, F, hm⟩ := T
 exact ⟨f, fd, fun C E => fy_f F S fun cdv A outer s H E1 hr => hb C E f cdv A outer s H E1 hr, F.binds hbd, F.kp, hm⟩
theorem Ybi {X : Cx} {fl : Bool} {C : Ve} {av : Option Str} {k n : Nat} {ps : List Str} {F : YFF} {fa : AF} {x xn : Str} {a : Vq} {as : List Vq} {p cp : Pos} (G : FnY X.prog X.w X.K X.mg X.base k x ps xn av F) (hE : X.mg xn = some (.ref C)) (hr : Room k X.A) (ha : PAf X.nox (a :: as) fa)
  (hg : Gl X x := by rfl) (hdb : (x == ("__debug__" : Str)) = false := by decide) (he : starEach (a :: as) X.env = (false, eval a X.env) :: starEach as X.env := by exact Zau rfl) (hpl : (backTo cp (starEach as X.env)).any (·.1) = false := by exact Zbv rfl) (hn : ps.length = n := by rfl) : PYE fl X C av (.Call (.Name x p) (a :: as) [] cp) (Zfe n F fa) := by
 subst hn
 obtain ⟨f, fd, G1, hb, hk, hm⟩ := G.ex
 exact Ztj (G1 C hE) hr hg hm hk hb ha hdb he hpl
end
theorem Zud.mono {K : Ucd} {av : Option Str} {i : Int} {dx : Option Ve} {H H' : Hp} {ι ι' : List Ve} (h : Zud av i dx H ι) (l : Le K H ι H' ι') : Zud av i dx H' ι' := by
 cases av with
 | none => exact h
 | some f =>
  obtain ⟨d, rfl, g, n⟩ := h
  obtain ⟨g', n'⟩ := l.frame d _ g n
  exact ⟨d, rfl, g', n'⟩
structure Sx (iE : Nat) (ex : Ve) (av : Option Str) (i : Int) (dx : Option Ve) (σ : L2.St) (H : Hp) (ι : List Ve) : Prop where
 at_ : σ[iE]? = some (some (.ref ex))
 xd : Zud av i dx H ι
nonrec def rdEx (K : Ucd) (iE : Nat) (ex : Ve) (av : Option Str) (i : Int) (dx : Option Ve) (f : EF) : TE := fun σ H Q => ∃ ι σd Hd d Hd', Sx iE ex av i dx σ H ι ∧ SRep K H ι σ σd ∧ HRep K H ι Hd ∧ f σd Hd = some (d, Hd') ∧ QE K H ι d Hd' Q
nonrec def rdAx (K : Ucd) (iE : Nat) (ex : Ve) (av : Option Str) (i : Int) (dx : Option Ve) (f : AF) : TA := fun σ H Q => ∃ ι σd Hd ds Hd', Sx iE ex av i dx σ H ι ∧ SRep K H ι σ σd ∧ HRep K H ι Hd ∧ f σd Hd = some (ds, Hd') ∧ ∀ vs H' ι', Le K H ι H' ι' -> HRep K H' ι' Hd' -> Vh (Rep K H' ι') ds vs -> Q vs H'
def QSx (K : Ucd) (iE : Nat) (ex : Ve) (av : Option Str) (i : Int) (dx : Option Ve) (H : Hp) (ι : List Ve) (fl : FD) (σd' : SD) (Hd' : HD) (E : Ends) : Prop := ∀ σ' H' ι', Le K H ι H' ι' -> HRep K H' ι' Hd' -> SRep K H' ι' σ' σd' -> Sx iE ex av i dx σ' H' ι' →
 match fl with
 | .nx => E.nx σ' H'
 | .bk => E.bk σ' H'
 | .ct => E.ct σ' H'
 | .rt d => ∀ v, Rep K H' ι' d v -> E.rt v H'
nonrec def rdSx (K : Ucd) (iE : Nat) (ex : Ve) (av : Option Str) (i : Int) (dx : Option Ve) (f : SF) : TS := fun E σ H => ∃ ι σd Hd fl σd' Hd', Sx iE ex av i dx σ H ι ∧ SRep K H ι σ σd ∧ HRep K H ι Hd ∧ f σd Hd = some (fl, σd', Hd') ∧ QSx K iE ex av i dx H ι fl σd' Hd' E
section
variable {X : Cx} {iE : Nat} {ex : Ve} {av : Option Str} {i : Int} {dx : Option Ve} {e : Vq} {es : List Vq} {pos : Pos} {st : Vw} {sts : List Vw}
def PEx (X : Cx) (iE : Nat) (ex : Ve) (av : Option Str) (i : Int) (dx : Option Ve) (e : Vq) (f : EF) : Prop := PE X e (rdEx X.K iE ex av i dx f)
def PAx (X : Cx) (iE : Nat) (ex : Ve) (av : Option Str) (i : Int) (dx : Option Ve) (es : List Vq) (f : AF) : Prop := PA X es (rdAx X.K iE ex av i dx f)
def PSx (X : Cx) (iE : Nat) (ex : Ve) (av : Option Str) (i : Int) (dx : Option Ve) (st : Vw) (f : SF) : Prop := PS X st (rdSx X.K iE ex av i dx f)
def Ycd (X : Cx) (iE : Nat) (ex : Ve) (av : Option Str) (i : Int) (dx : Option Ve) (st : List Vw) (f : SF) : Prop := PSs X st (rdSx X.K iE ex av i dx f)
theorem Ybr {f : EF} (h : PEf X e f) : PEx X iE ex av i dx e f := PEi h fun σ H Q ⟨ι, σd, Hd, d, Hd', _, s, hr, e, q⟩ => ⟨ι, σd, Hd, d, Hd', s, hr, e, q⟩
theorem Zq0 : PAx X iE ex av i dx [] Zae := PAi Zi3 fun σ H Q ⟨ι, σd, Hd, d, Hd', _, s, hr, e, q⟩ => ⟨ι, σd, Hd, d, Hd', s, hr, e, q⟩
theorem Zhu {f : EF} {g : AF} (ha : PEx X iE ex av i dx e f) (hr : PAx X iE ex av i dx es g) (hs : starEach (e :: es) X.env = (false, eval e X.env) :: starEach es X.env := by exact Zau rfl) : PAx X iE ex av i dx (e :: es) (Zaa f g) := by
 refine PAi (Zcz ha hr hs) fun σ H Q zz => ?_
 obtain ⟨ι, σd, Hd, d, Hd', sx, s, hr, e, q⟩ := zz
 obtain ⟨⟨x, H1⟩, e1, e⟩ := Zo e
 obtain ⟨⟨y, H2⟩, e2, e⟩ := Zm e
 cases e
 exact ⟨ι, σd, Hd, x, H1, sx, s, hr, e1, fun v1 H1' ι1 l1 h1 r1 => ⟨ι1, σd, H1, y, H2, ⟨sx.at_, sx.xd.mono l1⟩, s.mono l1, h1, e2, fun vs H2' ι2 l2 h2 r2 => q _ H2' ι2 (l1.trans l2) h2 (.cons (r1.mono l2) r2)⟩⟩
theorem Zrx {f : AF} (h : PAx X iE ex av i dx es f) : PEx X iE ex av i dx (.List es pos) (Zcb f) := by
 refine PEi (Zwu h) fun σ H Q zz => ?_
 obtain ⟨ι, σd, Hd, d, Hd', sx, s, hr, e, q⟩ := zz
 obtain ⟨⟨x, H1⟩, e1, e⟩ := Zo e
 exact ⟨ι, σd, Hd, x, H1, sx, s, hr, e1, fun vs H' ι' l h r => Zeq h r e fun v2 H2 ι2 l2 h2 r2 => q v2 H2 ι2 (l.trans l2) h2 r2⟩
theorem Zoj : Ycd X iE ex av i dx [] Zaj := by
 refine Zzj Zsd fun E σ H zz => ?_
 obtain ⟨ι, σd, Hd, fl, σd', Hd', sx, s, hr, e, q⟩ := zz
 cases e
 exact q σ H ι Le.refl hr s sx
theorem Zib {f g : SF} (h1 : PSx X iE ex av i dx st f) (h2 : Ycd X iE ex av i dx sts g) : Ycd X iE ex av i dx (st :: sts) (Zaf f g) := by
 refine Zzj (Zf1 h1 h2) fun E σ H zz => ?_
 obtain ⟨ι, σd, Hd, fl, σd', Hd', sx, s, hr, e, q⟩ := zz
 obtain ⟨⟨f1, σ1, H1⟩, e1, e⟩ := Zo e
 refine ⟨ι, σd, Hd, f1, σ1, H1, sx, s, hr, e1, fun σ' H' ι' l h ss sx' => ?_⟩
 cases f1 with
 | nx => exact ⟨ι', σ1, H1, fl, σd', Hd', sx', ss, h, e, fun σ2 H2 ι2 l2 h2 s2 => q σ2 H2 ι2 (l.trans l2) h2 s2⟩
 | bk => cases e; exact q σ' H' ι' l h ss sx'
 | ct => cases e; exact q σ' H' ι' l h ss sx'
 | rt d => cases e; exact q σ' H' ι' l h ss sx'
theorem Zns {j : Nat} {x : Str} {f : EF} {pos' : Pos} (hN : X.N.Nodup) (hi : X.N[j]? = some x) (hne : j ≠ iE) (hx : Loc X.env.scope x) (he : PEx X iE ex av i dx e f) (hs : swapsWith e (some (.Name x pos')) pos.line X.env = pure false := by rfl) (hf : X.fn x = true ∨ X.env.scope.names.lookup x = some .local := by first | exact .inl rfl | exact .inr rfl) :
  PSx X iE ex av i dx (.Assign [.Name x pos'] e pos) (Zax j f) := by
 refine PSi (Zwg hN hi hx he hs hf) fun E σ H zz => ?_
 obtain ⟨ι, σd, Hd, fl, σd', Hd', sx, s, hr, e, q⟩ := zz
 obtain ⟨⟨y, H1⟩, e1, e⟩ := Zm e
 cases e
 refine ⟨ι, σd, Hd, y, H1, sx, s, hr, e1, fun v H' ι' l h r => q _ H' ι' l h ((s.mono l).set r j) ⟨?_, sx.xd.mono l⟩⟩
 rw [Wam hne]
 exact sx.at_
theorem Ztz {C Cl fI : Ve} {oe : Obj} {f en : Str} {p : Pos} (T : ExI X.K C Cl fI f) (L : ExcL X.K C) (hc : oe.cls = .ref C) (hv : ∃ vs, oe.data = .fields vs) (hd : oe.dict = dx) (hi : X.N[iE]? = some en) (vE : Vis X.env.scope en) (hb : attributeBase (.Name en p) f X.env (eval (.Name en p) X.env) = eval (.Name en p) X.env)
  (dE : (en == ("__debug__" : Str)) = false := by decide) (dE2 : (en == ("__classdict__" : Str)) = false := by decide) : PEx (Xh X ex oe) iE ex (some f) i dx (.Attribute (.Name en p) f pos) (eC (.int i)) := by
 rintro pins s σ H Q I ⟨ι, σd, Hd, d, Hd', sx, ss, hr, e, q⟩
 cases e
 refine Zx1 hb (thn (Zgg (X := Xh X ex oe) hi vE dE dE2 pins s σ H (fun v H' => v = .ref ex ∧ H' = H) I ⟨_, sx.at_, rfl, rfl⟩) fun u s1 z => ?_)
 obtain ⟨v, H', I1, rv, rfl, rfl⟩ := z
 have rv : u = .ref ex := rv
 subst rv
 have pn := I1.pin (ex, oe) (Wal _ (Wav ..))
 obtain ⟨d, rfl, g, n⟩ := sx.xd
 obtain ⟨mA, n1, r1⟩ := I1.hok d _ g
 have r2 := r1 f
 rw [Wef] at r2
 obtain ⟨u, hu, ru⟩ : ∃ u, mA f = some u ∧ Zca (.int i) u := by
  cases z : mA f with
  | none => rw [z] at r2; exact r2.elim
  | some u => rw [z] at r2; exact ⟨u, rfl, r2⟩
 obtain ⟨od, ho, hl⟩ := Zta n1
 obtain ⟨c, hc2, Y⟩ := Zji I1.kIn T.xin
 obtain ⟨nm, qn, N, bs, sn, sub, ab, col, dd, k0, k1, k2, k3, k5, hC, rfl⟩ := Y.obj
 have J : InstAt s1.heap ex oe C (some od) := ⟨pn.1, hc, by obtain ⟨vs, hv⟩ := hv; unfold notCls; rw [hv], by rw [hd]; exact ho⟩
 have hh : hasDictIn X.K C = true := by unfold hasDictIn; rw [hc2]; rfl
 obtain ⟨t, rfl⟩ := ru
 exact Zt4 L I1.kIn J (findObj_own hh T.nf rfl (by rw [hl, hu])) rfl ⟨.int i, H', I1.tok _, ⟨_, rfl⟩, q _ H' ι Le.refl hr (by simp)⟩
theorem Zzb {C : Ve} {oe : Obj} {en xn : Str} {cV : Ve} {b : Bool} {p1 p2 p3 p4 : Pos} (L : ExcL X.K C) (hc : oe.cls = .ref C) (hk : kitOne X.K (.ref C) (.ref cV) = some b) (hi : X.N[iE]? = some en) (vE : Vis X.env.scope en) (mI : X.mg "isinstance" = none) (mX : X.mg xn = some (.ref cV)) (gI : Gl X "isinstance" := by rfl) (gX : Gl X xn := by rfl)
  (dE : (en == ("__debug__" : Str)) = false := by decide) (dE2 : (en == ("__classdict__" : Str)) = false := by decide) (dX : (xn == ("__debug__" : Str)) = false := by decide) : PEx (Xh X ex oe) iE ex av i dx (.Call (.Name "isinstance" p1) [.Name en p2, .Name xn p3] [] p4) (eC (.bl b)) := by
 have e2 : PE (Xh X ex oe) (.Call (.Name "isinstance" p1) [.Name en p2, .Name xn p3] [] p4) _ := Zht (Zqs (c := .ref cV) (cV := .ref cV) L hc (fun u r => r) hk) gI mI Ubn (Zcz (Zgg hi vE dE dE2) (Zcz (Zm1 (v := .ref cV) gX mX rfl dX) Zjj rfl) rfl)
 refine PEi e2 fun σ H Q zz => ?_
 obtain ⟨ι, σd, Hd, d, Hd', sx, s, hr, e, q⟩ := zz
 cases e
 exact ⟨.ref ex, sx.at_, rfl, q _ H ι Le.refl hr (by simp)⟩
theorem Zu2 {C : Ve} {oe : Obj} {en : Str} {b : Bool} {p1 p2 p3 p4 : Pos} (L : ExcL X.K C) (hc : oe.cls = .ref C) (hk : kitOne X.K (.ref C) (.type "ValueError") = some b) (hi : X.N[iE]? = some en) (vE : Vis X.env.scope en) (mI : X.mg "isinstance" = none) (mX : X.mg "ValueError" = none) (bV : bootBuiltins "ValueError" = some (.type "ValueError")) (gI : Gl X "isinstance" := by rfl) (gX : Gl X "ValueError" := by rfl)
  (dE : (en == ("__debug__" : Str)) = false := by decide) (dE2 : (en == ("__classdict__" : Str)) = false := by decide) : PEx (Xh X ex oe) iE ex av i dx (.Call (.Name "isinstance" p1) [.Name en p2, .Name "ValueError" p3] [] p4) (eC (.bl b)) := by
 have e2 : PE (Xh X ex oe) (.Call (.Name "isinstance" p1) [.Name en p2, .Name "ValueError" p3] [] p4) _ := Zht (Zqs (c := .ty "ValueError") (cV := .type "ValueError") L hc (fun u r => r) hk) gI mI Ubn (Zcz (Zgg hi vE dE dE2) (Zcz (Ztc (v := .ty "ValueError") gX mX bV rfl) Zjj rfl) rfl)
 refine PEi e2 fun σ H Q zz => ?_
 obtain ⟨ι, σd, Hd, d, Hd', sx, s, hr, e, q⟩ := zz
 cases e
 exact ⟨.ref ex, sx.at_, rfl, q _ H ι Le.refl hr (by simp)⟩
theorem Zvk {C : Ve} {oe : Obj} {en : Str} {es : List Vq} {cs : List Ve} {b : Bool} {x1 : Nat} {p1 p2 p3 p4 : Pos} (L : ExcL X.K C) (hc : oe.cls = .ref C) (hk : kitAny X.K (.ref C) (cs.map .ref) = some b) (hz : cs.length ≤ 1000) (hcl : PA (Xh X ex oe) es (Zsk cs)) (hi : X.N[iE]? = some en) (vE : Vis X.env.scope en) (mI : X.mg "isinstance" = none) (gI : Gl X "isinstance" := by rfl)
  (dE : (en == ("__debug__" : Str)) = false := by decide) (dE2 : (en == ("__classdict__" : Str)) = false := by decide) : PEx (Xh X ex oe) iE ex av i dx (.Call (.Name "isinstance" p1) [.Name en p2, .Tuple es x1 p3] [] p4) (eC (.bl b)) := by
 have e2 : PE (Xh X ex oe) (.Call (.Name "isinstance" p1) [.Name en p2, .Tuple es x1 p3] [] p4) _ := Zht (Zyx (cs := cs) L hc hk) gI mI Ubn (Zcz (Zgg hi vE dE dE2) (Zcz (Zwi hcl) Zjj rfl) rfl)
 refine PEi e2 fun σ H Q zz => ?_
 obtain ⟨ι, σd, Hd, d, Hd', sx, s, hr, e, q⟩ := zz
 cases e
 refine ⟨.ref ex, sx.at_, ?_, fun p hp => ⟨p, rfl, L2.upd_same, ?_⟩⟩
 ·rw [Xk, Tam]; omega
 exact q _ _ ι (Le.fresh hp _) (hr.tup hp _) (by simp)
end
nonrec def Znu (iE : Nat) (b : SF) (y : YFs) (su : Int -> SF) : SF := fun σ H => match b σ H with
 | some r => some r
 | none => (y σ H).bind fun p => (su p.1 (σ.set iE none) p.2).bind fun r => match r.1 with
  | .nx => some (.nx, r.2.1.set iE none, r.2.2)
  | _ => none
section
variable {X : Cx} {iE : Nat} {av : Option Str}
theorem Zt0 {C f : Ve} {k n : Nat} {fd : Vy} {ps : List Str} {F : YFF} {fa : AF} {x xc nm : Str} {cV : Vb} {b₀ : Vw} {suite : List Vw} {a : Vq} {as : List Vq} {su : Int -> SF} {p cp np hp : Pos} {pins : List (Ve × Obj)} {s : Vd} {σ : L2.St} {H : Hp} {D : Ends} {Q : Vb -> Vd -> Prop}
  (hstk : X.stack = X.env :: X.outer) (hfr : X.env.frame = some X.env.locals)
  (G : FnOk X.prog X.w X.K X.mg X.base (CXy X.prog X.w) k f fd ps (spY X.K C av n F)) (hr : Room k X.A) (hg : Gl X x) (hm : X.mg x = some (.ref f)) (hk : Waz X.K (.ref f) = true) (hb : Zfl X.K fd ps [])
  (ha : PAf X.nox (a :: as) fa) (hgc : Gl X xc) (hmc : X.mg xc = some cV) (hex : exmOne X.K (.ref C) cV = some true)
  (hN : X.N.Nodup) (hi : X.N[iE]? = some nm) (hloc : X.env.scope.names.lookup nm = some .local) (hkl : X.env.kindOf nm = some .local)
  (hS : ∀ (i : Int) (ex : Ve) (oe : Obj), oe.cls = .ref C -> (∃ vs, oe.data = .fields vs) -> Ycd (Xh X ex oe) iE ex av i oe.dict (b₀ :: suite) (su i))
  (hdb : (x == ("__debug__" : Str)) = false) (hdc : (xc == ("__debug__" : Str)) = false) (he : starEach (a :: as) X.env = (false, eval a X.env) :: starEach as X.env) (hpl : (backTo cp (starEach as X.env)).any (·.1) = false)
  (I : Inv X pins σ H s) (z : ∃ ι σd Hd i H2 fl σ2 H3, SRep X.K H ι σ σd ∧ HRep X.K H ι Hd ∧ Zfe n F fa σd Hd = some (i, H2) ∧ su i (σd.set iE none) H2 = some (fl, σ2, H3) ∧ fl = .nx ∧ QS X.K H ι .nx (σ2.set iE none) H3 D) :
  wpAny (model X.prog X.w) X.A (eval (.Call (.Name x p) (a :: as) [] cp) X.env) Q (fun e s1 => wpAny (model X.prog X.w) X.A (noteFrame e X.env) (fun _ s2 => wpAny (model X.prog X.w) X.A (setFlight e none) (fun _ s3 => wpAny (model X.prog X.w) X.A (handleBy e X.env [.ExceptHandler (some (.Name xc np)) (some nm) (b₀ :: suite) hp]) (SP X pins D) X.xe s3) X.xe s2) X.xe s1) s := by
 obtain ⟨ι, σd, Hd, i, H2, fl, σ2, H3, ss, hh, e1, e4, rfl, q⟩ := z
 obtain ⟨⟨ds, H1⟩, e1, e⟩ := Zo e1
 have hx : ds.length = n ∧ F ds H1 = some (i, H2) := by
  dsimp only at e
  split at e
  ·rename_i z; exact ⟨z, e⟩
  ·cases e
 obtain ⟨e2, e3⟩ := hx
 refine Vt (Zek I hg hm ?_ hdb)
 refine Wbo (h₀ := X.base) I.ok.mod.kin hk (Vn (ha cp pins s σ H (fun vs H' => ∃ ι', Le X.K H ι H' ι' ∧ HRep X.K H' ι' H1 ∧ Vh (Rep X.K H' ι') ds vs) (I.wish _) ⟨ι, σd, Hd, ds, H1, ss, hh, e1, fun vs H' ι' l h P => ⟨ι', l, h, P⟩⟩) (fun us s1 z => ?_) fun _ _ z => z.elim) he hpl
 obtain ⟨vs, H1v, I1, r1, ι1, l1, h1, P1⟩ := z
 have I1 : Inv X pins σ H1v s1 := I1.unwish
 refine ⟨I1.kIn, ?_⟩
 have sp : spY X.K C av n F vs H1v (fun _ _ => False) fun Cv dx H' => Cv = .ref C ∧ ∃ ι', Le X.K H ι H' ι' ∧ HRep X.K H' ι' H2 ∧ Zud av i dx H' ι' := ⟨ι1, ds, H1, i, H2, e2, h1, P1, e3, fun H' ι' dx l h z => ⟨rfl, ι', l1.trans l, h, z⟩⟩
 have hl : us.length = ps.length := by rw [← r1.length]; exact G.len _ _ _ _ sp
 have hb1 := hb s1 us I1.kIn (by rw [Xu]; exact hl)
 rw [Xu] at hb1
 refine Uaj (Uad (G.run X.A X.stack s1 H1v ⟨us, []⟩ us vs _ _ hr I1.env0 hb1 r1 sp) fun r s' hq => ?_)
 cases r with
 | ok fl' =>
  cases fl' with
  | ret u => obtain ⟨v, H', _, _, _, _, _, z⟩ := hq; exact z.elim
  | next => exact Ue hq
  | brk => exact Ue hq
  | cont => exact Ue hq
 | error e =>
  obtain ⟨ex, Cv, dx, H2v, rfl, ⟨rfl, ι2, l2, h2, xd⟩, os, bare, un, hok, fl⟩ := hq
  obtain ⟨B, fly, bo, bt⟩ := fl.fly
  rw [hstk] at fly
  have new : s1.heap.get? ex = none := fl.new
  have frA : X.A.frames = some (X.env :: X.outer) := by rw [← hstk]; exact I1.ok.frames
  refine Zq7 frA hfr fly fun h4 held4 up4 => ?_
  refine Ze8 (s := { s' with heap := h4 }) held4 fun h5 fly5 up5 => ?_
  have ff : s'.heap.FunFrames B X.stack := by rw [hstk]; exact fly.ff
  obtain ⟨un5, ok5⟩ := Zmf un hok bo bt fly5.st (up4.trans up5) ff
  have I5 : Inv X pins σ H2v { s' with heap := h5 } := I1.call' (s' := { s' with heap := h5 }) (ch := []) os un5 ok5 bare (fun b z => absurd z (by simp))
  have exH : H2v ex = none := by
   cases z : H2v ex with
   | none => rfl
   | some ho =>
    obtain ⟨o, _, g⟩ := bt ex ho z
    rw [fly.no] at g; cases g
  have ne : ex ≠ X.env.locals := fun z => by
   obtain ⟨m, ⟨o, _, _, g, _⟩, _⟩ := I1.loc
   rw [← z, new] at g; cases g
  have nf : ex ∉ X.fs := fun z => by
   obtain ⟨_, o, g, _⟩ := I1.funs.mem z
   rw [new] at g; cases g
  obtain ⟨ob, wb, gob, cob, dob, _⟩ := fly5.first
  have I5m : Inv (Xh X ex ob) pins σ H2v { s' with heap := h5 } := Inv.marked I5 gob exH ne nf fun v z => by rw [dob] at z; cases z
  refine wpAny_handleBy_cons (Ubo (Zek (X := Xh X ex ob) I5m hgc hmc ?_ hdc)) (by intro z; cases z)
  have LT : Ucg (model X.prog X.w) h5 (typeOf (.ref ex)) (.ref C) := by rw [← cob]; exact (Looks.ld gob).andThen .now
  refine (exm_one (M := model X.prog X.w) I5.kIn LT hex).here ?_
  refine codeAny_handlers_suite_as ?_
  refine Ze8 (s := { s' with heap := h5 }) fly5 fun h6 fly6 up6 => ?_
  obtain ⟨un6, ok6⟩ := Zmf un hok bo bt fly6.st ((up4.trans up5).trans up6) ff
  have I6 : Inv X pins σ H2v { s' with heap := h6 } := I1.call' (s' := { s' with heap := h6 }) (ch := []) os un6 ok6 bare (fun b z => absurd z (by simp))
  obtain ⟨oe, ws, goe, coe, doe, eoe⟩ := fly6.first
  have I6m : Inv (Xh X ex oe) pins σ H2v { s' with heap := h6 } := Inv.marked I6 goe exH ne nf fun v z => by rw [doe] at z; cases z
  refine Zhz (X := Xh X ex oe) I6m hN hi (.inl hloc) (v := .ref ex) rfl (fun s7 I7 => ?_) (.inr hloc)
  have li : iE < σ.length := by rw [I6.len]; exact (Xd.mp hi).1
  have sr : SRep X.K H2v ι2 (σ.set iE (some (.ref ex))) (σd.set iE none) := by
   have s2 := ss.mono l2
   refine ⟨by simp [s2.len], fun j d hd => ?_⟩
   by_cases hj : j = iE
   ·subst hj
    rw [Wca] at hd
    split at hd
    ·split at hd <;> cases hd
    ·rename_i z; exact absurd rfl z
   ·rw [Wam (Ui hj)] at hd ⊢
    exact s2.var j d hd
  have st := hS i ex oe coe ⟨ws, doe⟩ pins s7 (σ.set iE (some (.ref ex))) H2v { nx := fun σ8 H8 => D.nx (σ8.set iE none) H8, rt := fun _ _ => False } I7 ⟨ι2, _, H2, .nx, σ2, H3, ⟨Wbw li, by rw [eoe]; exact xd⟩, sr, h2, e4, fun σ8 H8 ι8 l8 h8 s8 sx8 => ?_⟩
  ·refine Vn st (fun f s8 z => ?_) fun _ _ z => z.elim
   cases f with
   | next =>
    obtain ⟨σ8, H8, I8, z⟩ := z
    exact Zxe (Inv.unmark I1.ok I8) hN hi hkl fun s9 I9 => ⟨_, _, I9, z⟩
   | ret u => obtain ⟨v, σ8, H8, I8, r, z⟩ := z; exact z.elim
   | brk => obtain ⟨σ8, H8, I8, z⟩ := z; exact z.elim
   | cont => obtain ⟨σ8, H8, I8, z⟩ := z; exact z.elim
  ·refine q (σ8.set iE none) H8 ι8 (l2.trans l8) h8 ⟨by simp [s8.len], fun j d hd => ?_⟩
   by_cases hj : j = iE
   ·subst hj
    rw [Wca] at hd
    split at hd
    ·split at hd <;> cases hd
    ·rename_i z; exact absurd rfl z
   ·rw [Wam (Ui hj)] at hd ⊢
    exact s8.var j d hd
end
section
variable {X : Cx} {iE : Nat} {av : Option Str} {C : Ve} {k : Nat} {ps : List Str} {F : YFF} {fa : AF} {x xn xc nm : Str} {cV : Vb} {b₀ : Vw} {suite : List Vw} {a : Vq} {as : List Vq} {b : SF} {su : Int -> SF} {p cp ep np hp pos : Pos}
theorem Yat {body : List Vw} {pins : List (Ve × Obj)} {s : Vd} {σ : L2.St} {H : Hp} {D : Ends} {y : YFs} (hb0 : Zmv X.nox body b) (I : Inv X pins σ H s) (z : rdS X.K (Znu iE b y su) D σ H)
  (q : (∃ ι σd Hd i H2 fl σ2 H3, SRep X.K H ι σ σd ∧ HRep X.K H ι Hd ∧ y σd Hd = some (i, H2) ∧ su i (σd.set iE none) H2 = some (fl, σ2, H3) ∧ fl = .nx ∧ QS X.K H ι .nx (σ2.set iE none) H3 D) -> wpAny (model X.prog X.w) X.A (exec (.Try body [.ExceptHandler (some (.Name xc np)) (some nm) (b₀ :: suite) hp] [] [] pos) X.env) (SP X pins D) X.xe s) :
  wpAny (model X.prog X.w) X.A (exec (.Try body [.ExceptHandler (some (.Name xc np)) (some nm) (b₀ :: suite) hp] [] [] pos) X.env) (SP X pins D) X.xe s := by
 obtain ⟨ι, σd, Hd, fl, σd', Hd', ss, hr, e, qq⟩ := z
 unfold Znu at e
 split at e
 ·rename_i r e1
  cases e
  refine Uaq (Vn (hb0 pins s σ H D (I.wish _) ⟨ι, σd, Hd, _, _, _, ss, hr, e1, qq⟩) (fun f s1 z => ?_) fun _ _ z => z.elim)
  have z : SP X pins D f s1 := z.unwish
  cases f with
  | next => exact Uag z
  | brk => exact z
  | cont => exact z
  | ret u => exact z
 ·obtain ⟨⟨i, H2⟩, e1, e⟩ := Zo e
  obtain ⟨⟨fl2, σ2, H3⟩, e2, e⟩ := Zo e
  refine q ⟨ι, σd, Hd, i, H2, fl2, σ2, H3, ss, hr, e1, e2, ?_⟩
  cases fl2 with
  | nx => cases e; exact ⟨rfl, qq⟩
  | bk => cases e
  | ct => cases e
  | rt d => cases e
theorem Zod (hb0 : Zmv X.nox [.Expr (.Call (.Name x p) (a :: as) [] cp) ep] b) (G : FnY X.prog X.w X.K X.mg X.base k x ps xn av F) (hE : X.mg xn = some (.ref C)) (hr : Room k X.A) (ha : PAf X.nox (a :: as) fa) (hmc : X.mg xc = some cV) (hex : exmOne X.K (.ref C) cV = some true)
  (hN : X.N.Nodup) (hi : X.N[iE]? = some nm) (hloc : X.env.scope.names.lookup nm = some .local) (hS : ∀ (i : Int) (ex : Ve) (oe : Obj), oe.cls = .ref C -> (∃ vs, oe.data = .fields vs) -> Ycd (Xh X ex oe) iE ex av i oe.dict (b₀ :: suite) (su i))
  (hstk : X.stack = X.env :: X.outer := by rfl) (hfr : X.env.frame = some X.env.locals := by rfl) (hg : Gl X x := by rfl) (hgc : Gl X xc := by rfl) (hdb : (x == ("__debug__" : Str)) = false := by decide) (hdc : (xc == ("__debug__" : Str)) = false := by decide)
  (he : starEach (a :: as) X.env = (false, eval a X.env) :: starEach as X.env := by exact Zau rfl) (hpl : (backTo cp (starEach as X.env)).any (·.1) = false := by exact Zbv rfl) (hs : swapsWith (.Call (.Name x p) (a :: as) [] cp) none ep.line X.env = pure false := by rfl) :
  PSf X (.Try [.Expr (.Call (.Name x p) (a :: as) [] cp) ep] [.ExceptHandler (some (.Name xc np)) (some nm) (b₀ :: suite) hp] [] [] pos) (Znu iE b (Zfe ps.length F fa) su) := by
 intro pins s σ H D I z
 obtain ⟨f, fd, G1, hb, hk, hm⟩ := G.ex
 refine Yat hb0 I z fun z => ?_
 exact Uaq (Uar (wpAny_Expr_any (Zt0 hstk hfr (G1 C hE) hr hg hm hk hb ha hgc hmc hex hN hi hloc hloc hS hdb hdc he hpl I z) I.quiet hs))
end
section
variable {X : Cx}
theorem Zzt {tg iter : Vq} {t : TI} (h : PI X.nox tg iter t) : PI X tg iter t := fun pins s σ H R I q =>
 Vn (h pins s σ H R (I.wish _) q) (fun v s1 z => Vn z (fun itv s2 ⟨it, fp, tn, J, H', e, I', T, st, f, r⟩ => ⟨it, fp, tn, J, H', e, I'.unwish, T, st, f, r⟩) fun _ _ y => Ue y) fun _ _ y => Ue y
theorem Yce {tg : Vq} {t : TG} (h : PG X.nox tg t) : PG X tg t := fun pins s σ H v u Q I r q =>
 Vn (h pins s σ H v u Q (I.wish _) r q) (fun _ s1 ⟨σ', H', I', z⟩ => ⟨σ', H', I'.unwish, z⟩) fun _ _ y => Ue y
variable {fl : Bool} {C : Ve} {av : Option Str} {st : Vw} {sts : List Vw} {c : Vq} {pos : Pos}
theorem Znz {f : SF} {b : YFs} (h1 : PSf X.nox st f) (h2 : PYf fl X C av sts b) : PYf fl X C av (st :: sts) (Zw5 f b) := Zxc (Yal h1) h2
theorem Yak {t : TF} {as bs : List Vw} {a b : YFs} (hc : PTf X.nox c t) (ha : PYf fl X C av as a) (hb : PYf fl X C av bs b) : PYS fl X C av (.If c as bs pos) (yIf t a b) := py_if (PT.nox hc) ha hb
theorem Zxf {tg iter : Vq} {body : List Vw} {f : ItF} {g : GF} {b : SF} {yb : YFs} (hp : Ubb (model X.prog X.w) X.A X.env X.xe) (hc : X.calm = true) (hi : PIf X.nox tg iter f) (hg : PGf X.nox tg g) (hb : Zmv X.nox body b) (hy : PYf fl X C av body yb)
  (hs : ∀ x, foldedSetIterable iter X.env x = pure x := by intro _; rfl) : PYS fl X C av (.For tg iter body [] pos) (Ybh f g b yb) := Ybd hp hc (Zzt hi) (Yce hg) (PSs.nox hb) hy hs
end
theorem po_cx {P : Vf} {w : Vk} {K : Xa} {mg : Str -> Option Vb} {base : Vu} {N : List Str} {qual : Str} {scope : Ubi} {f : Ve} {cd : Vb} {A : Vo} {outer : List Env} {s : Vd} {H : Hp} {E : XK} {CX : CXT} :
  Ubb (model P w) (Zfy CX P w K mg base N qual scope f cd A outer s H E).A (Zfy CX P w K mg base N qual scope f cd A outer s H E).env (Zfy CX P w K mg base N qual scope f cd A outer s H E).xe := PassesOwn.leaving
nonrec def Zyy (s : Vw) : List Vw := match s with
 | .ClassDef _ _ _ body _ _ _ _ _ _ _ => body
 | _ => []
structure YCl (K : Ucd) (mg : Str -> Option Vb) (xn f qual : Str) (st : Vw) (C Cl fI : Ve) : Prop where
 bound : mg xn = some (.ref C)
 kp : keepIn K (.ref C) = true
 ini : ExI K C Cl fI f
 base : mg "ClaimError" = some (.ref Cl)
 fn : ∃ fd, Fun K "__init__" qual st fI fd
 look : ExcL K C
structure YRs (P : Vf) (w : Vk) (K : Ucd) (mg : Str -> Option Vb) (base : Vu) (xn f : Str) (k : Nat) : Prop where
 ex : ∃ C Cl fI fd ps, mg xn = some (.ref C) ∧ keepIn K (.ref C) = true ∧ ExI K C Cl fI f ∧ FnOk P w K mg base CX0 k fI fd ps (spI C f) ∧ Zfl K fd ps [] ∧ ExcL K C
section
variable {X : Cx} {C : Ve} {f xn : Str} {k : Nat}
theorem YRs.at {P : Vf} {w : Vk} {K : Ucd} {mg : Str -> Option Vb} {base : Vu} (R : YRs P w K mg base xn f k) (hE : mg xn = some (.ref C)) : ∃ Cl fI fd ps, keepIn K (.ref C) = true ∧ ExI K C Cl fI f ∧ FnOk P w K mg base CX0 k fI fd ps (spI C f) ∧ Zfl K fd ps [] ∧ ExcL K C := by
 obtain ⟨C', Cl, fI, fd, ps, h1, h2, h3, h4, h5, h6⟩ := R.ex
 rw [hE] at h1
 cases h1
 exact ⟨Cl, fI, fd, ps, h2, h3, h4, h5, h6⟩
theorem Zqv {e : Vq} {fe : EF} {np cpos pos : Pos} (R : YRs X.prog X.w X.K X.mg X.base xn f k) (hE : X.mg xn = some (.ref C)) (hc : X.calm = true) (hr : Room (k + 1) X.A) (hf : PAf X.nox [e] (Zaa fe Zae)) (hg : Gl X xn := by rfl) (hdb : (xn == ("__debug__" : Str)) = false := by decide) (he : starEach [e] X.env = (false, eval e X.env) :: starEach [] X.env := by exact Zau rfl) :
  PYS false X C (some f) (.Raise (some (.Call (.Name xn np) [e] [] cpos)) none pos) (Zjh fe) := by
 obtain ⟨Cl, fI, fd, ps, h2, h3, h4, h5, h6⟩ := R.at hE
 exact Zvi hc h3 h4 hr hE h2 h5 (Yba hf) hg hdb he
theorem Zp8 {iE : Nat} {ex : Ve} {i : Int} {dx : Option Ve} {oe : Obj} {en : Str} {p pos : Pos} (R : YRs X.prog X.w X.K X.mg X.base xn f k) (hE : X.mg xn = some (.ref C)) (hc : oe.cls = .ref C) (hv : ∃ vs, oe.data = .fields vs) (hd : oe.dict = dx) (hi : X.N[iE]? = some en) (vE : Vis X.env.scope en) (hb : attributeBase (.Name en p) f X.env (eval (.Name en p) X.env) = eval (.Name en p) X.env := by rfl)
  (dE : (en == ("__debug__" : Str)) = false := by decide) (dE2 : (en == ("__classdict__" : Str)) = false := by decide) : PEx (Xh X ex oe) iE ex (some f) i dx (.Attribute (.Name en p) f pos) (eC (.int i)) := by
 obtain ⟨Cl, fI, fd, ps, h2, h3, h4, h5, h6⟩ := R.at hE
 exact Ztz h3 h6 hc hv hd hi vE hb dE dE2
theorem Yby {K : Ucd} {hp : Vu} {mg : Str → Option Vb} {xn f qual : Str} {st : Vw} {C Cl fI : Ve} {oc : Vb} {od an : Option Ve} {osl : Array (Option Vb)} {kV doc pm cdv ct : Vb} {cd : Ubv} (X : K.In hp) (G : hp.Ns mainGlobals mg) (a : nsIn K mainGlobals xn = some (some (.ref C))) (b : nsIn K mainGlobals "ClaimError" = some (some (.ref Cl))) (c : keepIn K (.ref C) = true)
  (d : Zt9 K C Cl = true) (e : findIn K (.ref C) "__init__" = some (some (.ref fI))) (f1 : typeIn K (.ref fI) = some (.type "function")) (g : findIn K (.ref C) "__setattr__" = some (some (.builtin "object.__setattr__"))) (h : findIn K (.ref C) f = some none)
  (i : specialIn K (.ref Cl) "__getattribute__" = some (some (.builtin "type.__getattribute__"))) (j : readsIn K Cl (.type "type") = true) (l : findCls K (.ref Cl) (.type "type") "__init__" = some (.val (.builtin "ValueError.__init__")))
  (m : K.lookup fI = some ⟨oc, od, .func (Wbp "__init__" qual (Zev st) (Zb7 st) (Zad st) .none kV doc pm an cdv ct), osl⟩) (n : Wda K cdv qual = true) (o : Waz K (.ref fI) = true)
  (p : findIn K (.ref C) "__getattribute__" = some (some (.builtin "BaseException.__getattribute__"))) (q : findIn K (.ref C) "__getattr__" = some none) (r : findIn K (.ref C) "__class__" = some (some (.builtin "object.__class__"))) (s : specialIn K (.builtin "object.__class__") "__get__" = some (some (.builtin "getset_descriptor.__get__")))
  (t : takesIn K (.builtin "object.__class__") = some true) (u : mroIn K C (.type "object") = some true) (v : subIn K (.ref C) (.type "BaseException") = some true) (w : clsIn K C = some cd) : YCl K mg xn f qual st C Cl fI :=
 ⟨Wco X G a, c, ⟨d, e, f1, g, h, i, j, l⟩, Wco X G b, ⟨_, Zwr m n o⟩, ⟨p, q, r, s, t, u, v, by rw [w]; rfl⟩⟩
end
def Zxy (K : Ucd) (mg : Str → Option Vb) (xn : Str) (cs : List Ve) : Prop := ∀ C, mg xn = some (.ref C) → kitAny K (.ref C) (cs.map .ref) = some false ∧ kitOne K (.ref C) (.type "ValueError") = some true
theorem Zv8 {K : Ucd} {hp : Vu} {mg : Str → Option Vb} {xn : Str} {C : Ve} {cs : List Ve} (X : K.In hp) (G : hp.Ns mainGlobals mg) (a : nsIn K mainGlobals xn = some (some (.ref C))) (r : kitAny K (.ref C) (cs.map .ref) = some false) (s : kitOne K (.ref C) (.type "ValueError") = some true) : Zxy K mg xn cs := by
 intro C' h
 rw [Ze1 X G a] at h
 cases h
 exact ⟨r, s⟩
section
variable {X : Cx} {C : Ve} {f xn : Str} {k : Nat} {iE : Nat} {ex : Ve} {i : Int} {dx : Option Ve} {av : Option Str} {oe : Obj} {en : Str} {cs : List Ve}
theorem Zs1 {p1 p2 p3 p4 : Pos} (R : YRs X.prog X.w X.K X.mg X.base xn f k) (hE : X.mg xn = some (.ref C)) (J : Zxy X.K X.mg xn cs) (hc : oe.cls = .ref C) (mI : X.mg "isinstance" = none) (mX : X.mg "ValueError" = none) (hi : X.N[iE]? = some en) (vE : Vis X.env.scope en) (gI : Gl X "isinstance" := by rfl) (gX : Gl X "ValueError" := by rfl)
  (dE : (en == ("__debug__" : Str)) = false := by decide) (dE2 : (en == ("__classdict__" : Str)) = false := by decide) : PEx (Xh X ex oe) iE ex av i dx (.Call (.Name "isinstance" p1) [.Name en p2, .Name "ValueError" p3] [] p4) (eC (.bl true)) := by
 obtain ⟨Cl, fI, fd, ps, h2, h3, h4, h5, h6⟩ := R.at hE
 exact Zu2 h6 hc (J C hE).2 hi vE mI mX (by decide +kernel) gI gX dE dE2
theorem Zms {es : List Vq} {x1 : Nat} {p1 p2 p3 p4 : Pos} (R : YRs X.prog X.w X.K X.mg X.base xn f k) (hE : X.mg xn = some (.ref C)) (J : Zxy X.K X.mg xn cs) (hc : oe.cls = .ref C) (hz : cs.length ≤ 1000) (mI : X.mg "isinstance" = none) (hi : X.N[iE]? = some en) (vE : Vis X.env.scope en) (hcl : PA (Xh X ex oe) es (Zsk cs)) (gI : Gl X "isinstance" := by rfl)
  (dE : (en == ("__debug__" : Str)) = false := by decide) (dE2 : (en == ("__classdict__" : Str)) = false := by decide) : PEx (Xh X ex oe) iE ex av i dx (.Call (.Name "isinstance" p1) [.Name en p2, .Tuple es x1 p3] [] p4) (eC (.bl false)) := by
 obtain ⟨Cl, fI, fd, ps, h2, h3, h4, h5, h6⟩ := R.at hE
 exact Zvk h6 hc (J C hE).1 hz hcl hi vE mI gI dE dE2
end
nonrec abbrev Xm (X : Cx) (ex : Ve) : Cx := { X with A := X.A.mark (some (.ref ex)), calm := false, xe := fun _ _ => False }
section
variable {X : Cx} {pins : List (Ve × Obj)} {σ : L2.St} {H : Hp} {s : Vd} {ex C : Ve} {o : Obj}
theorem Inv.inM (I : Inv X pins σ H s) : Inv (Xm X ex) pins σ H s := by
 obtain ⟨o1, o2, o3, o4, o5, o6, o7, o8, o9, o10, o11, o12, o13, o14, o15, o16, o17, o18⟩ := I.ok
 exact ⟨⟨o1, o2, o3, o4, o5, o6, o7, o8, (fun z => by cases z), o10, o11, o12, o13, o14, o15, o16, o17, o18⟩, I.os, I.bare, I.base, I.loc, I.cell, I.free, I.freeC, I.pin, I.hok, I.len⟩
theorem Inv.outM (ok : X.Ok) (I : Inv (Xm X ex) pins σ H s) : Inv X pins σ H s :=
 ⟨ok, I.os, I.bare, I.base, I.loc, I.cell, I.free, I.freeC, I.pin, I.hok, I.len⟩
end
def Fv (K : Ucd) (mg : Str -> Option Vb) (x : String) : Prop := ∃ f, mg (Ub x) = some (.ref f) ∧ nsIn K mainGlobals (Ub x) = some (some (.ref f))
theorem fv_mk {K : Ucd} {hp : Vu} {mg : Str -> Option Vb} {x : String} {f : Ve} (X : K.In hp) (G : hp.Ns mainGlobals mg) (a : nsIn K mainGlobals (Ub x) = some (some (.ref f))) : Fv K mg x := ⟨f, mg_of X G a, a⟩
nonrec def Zlk (i n : Nat) (x : String) (F : FF) (f : AF) : EF := fun σ H => match σ[i]? with
 | some (some (.ty y)) => if y = x then Zam n F f σ H else none
 | _ => none
section
variable {X : Cx} {k n i : Nat} {ps : List Str} {x : String} {v : Str} {p pos : Pos} {F : FF} {fa : AF} {e : Vq} {es : List Vq}
theorem Zqq (h : Fv X.K X.mg x) (ht : Zwd x = false := by decide) (hg : Gl X (Ub x) := by rfl) (hd : (Ub x == ("__debug__" : Str)) = false := by decide) : PEf X (.Name (Ub x) pos) (eC (.ty x)) := by
 obtain ⟨f, h1, h2⟩ := h
 exact Zph (Zm1 (v := .ref f) hg h1 rfl hd) fun _ _ => (Zv2 ht).mpr ⟨f, rfl, h2⟩
theorem Zrd (G : Fn X.prog X.w X.K X.mg X.base k (Ub x) ps F) (hf : Fv X.K X.mg x) (hr : Room k X.A) (hv : PE X (.Name v p) (tVar i)) (ha : PAf X (e :: es) fa) (ht : Zwd x = false := by decide)
  (he : starEach (e :: es) X.env = (false, eval e X.env) :: starEach es X.env := by exact Zau rfl) (hpl : (backTo pos (starEach es X.env)).any (·.1) = false := by exact Zbv rfl) (hn : ps.length = n := by rfl) :
  PEf X (.Call (.Name v p) (e :: es) [] pos) (Zlk i n x F fa) := by
 subst hn
 intro pins s σ H Q I z
 obtain ⟨ι, σd, Hd, d, Hd', ss, hr0, eq, q⟩ := z
 unfold Zlk at eq
 split at eq
 ·rename_i y hy
  split at eq
  ·rename_i ey
   subst ey
   obtain ⟨v0, h1, r⟩ := ss.var i _ hy
   obtain ⟨a, rfl, hns⟩ := (Zv2 ht).mp r
   obtain ⟨f', hm', hns'⟩ := hf
   rw [hns] at hns'
   cases hns'
   obtain ⟨f, fd, G1, hb, hk, hm, _⟩ := G.ex
   rw [hm'] at hm
   cases hm
   refine Vt (thn (hv pins s σ H (fun v' H' => v' = .ref a ∧ H' = H) I ⟨_, h1, rfl, rfl⟩) fun u s1 z => ?_)
   obtain ⟨v', H', I1, rv, rfl, rfl⟩ := z
   have rv : u = .ref a := rv
   subst rv
   have t : Yam (spF X.K ps.length F) [] E0 (rdA X.K fa) σ H' Q := by
    obtain ⟨⟨x, H1⟩, e1, e⟩ := Zo eq
    refine ⟨ι, σd, Hd, x, H1, ss, hr0, e1, fun vs H' ι' l h r => ?_⟩
    dsimp only at e
    split at e
    ·rename_i hl
     exact ⟨ι', x, H1, d, Hd', hl, h, by simpa using r, e, fun v2 H2 ι2 l2 h2 r2 => q v2 H2 ι2 (l.trans l2) h2 r2⟩
    ·cases e
   refine Wbo (h₀ := X.base) I1.ok.mod.kin hk (thn (ha pos pins s1 σ H' _ I1 t) fun us s2 ⟨vs, H1, I2, r, q⟩ => ⟨I2.kIn, ?_⟩) he hpl
   exact Zv6 G1 hr hb .nil Zzx I2 r q
  ·cases eq
 ·cases eq
end
nonrec def Znm (b : SF) (y : YFs) (su : SF) : SF := fun σ H => match b σ H with
 | some r => some r
 | none => (y σ H).bind fun p => su σ p.2
section
variable {X : Cx} {av : Option Str}
theorem Zrf {C f : Ve} {k n : Nat} {fd : Vy} {ps : List Str} {F : YFF} {fa : AF} {x xc : Str} {cV : Vb} {b₀ : Vw} {suite : List Vw} {a : Vq} {as : List Vq} {su : SF} {p cp np hp : Pos} {pins : List (Ve × Obj)} {s : Vd} {σ : L2.St} {H : Hp} {D : Ends} {Q : Vb -> Vd -> Prop}
  (hstk : X.stack = X.env :: X.outer) (hfr : X.env.frame = some X.env.locals)
  (G : FnOk X.prog X.w X.K X.mg X.base (CXy X.prog X.w) k f fd ps (spY X.K C av n F)) (hr : Room k X.A) (hg : Gl X x) (hm : X.mg x = some (.ref f)) (hk : Waz X.K (.ref f) = true) (hb : Zfl X.K fd ps [])
  (ha : PAf X.nox (a :: as) fa) (hgc : Gl X xc) (hmc : X.mg xc = some cV) (hex : exmOne X.K (.ref C) cV = some true)
  (hS : ∀ ex, Zmv (Xm X ex) (b₀ :: suite) su)
  (hdb : (x == ("__debug__" : Str)) = false) (hdc : (xc == ("__debug__" : Str)) = false) (he : starEach (a :: as) X.env = (false, eval a X.env) :: starEach as X.env) (hpl : (backTo cp (starEach as X.env)).any (·.1) = false)
  (I : Inv X pins σ H s) (z : ∃ ι σd Hd i H2 fl σ2 H3, SRep X.K H ι σ σd ∧ HRep X.K H ι Hd ∧ Zfe n F fa σd Hd = some (i, H2) ∧ su σd H2 = some (fl, σ2, H3) ∧ QS X.K H ι fl σ2 H3 D) :
  wpAny (model X.prog X.w) X.A (eval (.Call (.Name x p) (a :: as) [] cp) X.env) Q (fun e s1 => wpAny (model X.prog X.w) X.A (noteFrame e X.env) (fun _ s2 => wpAny (model X.prog X.w) X.A (setFlight e none) (fun _ s3 => wpAny (model X.prog X.w) X.A (handleBy e X.env [.ExceptHandler (some (.Name xc np)) none (b₀ :: suite) hp]) (SP X pins D) X.xe s3) X.xe s2) X.xe s1) s := by
 obtain ⟨ι, σd, Hd, i, H2, fl, σ2, H3, ss, hh, e1, e4, q⟩ := z
 obtain ⟨⟨ds, H1⟩, e1, e⟩ := Zo e1
 have hx : ds.length = n ∧ F ds H1 = some (i, H2) := by
  dsimp only at e
  split at e
  ·rename_i z; exact ⟨z, e⟩
  ·cases e
 obtain ⟨e2, e3⟩ := hx
 refine Vt (Zek I hg hm ?_ hdb)
 refine Wbo (h₀ := X.base) I.ok.mod.kin hk (Vn (ha cp pins s σ H (fun vs H' => ∃ ι', Le X.K H ι H' ι' ∧ HRep X.K H' ι' H1 ∧ Vh (Rep X.K H' ι') ds vs) (I.wish _) ⟨ι, σd, Hd, ds, H1, ss, hh, e1, fun vs H' ι' l h P => ⟨ι', l, h, P⟩⟩) (fun us s1 z => ?_) fun _ _ z => z.elim) he hpl
 obtain ⟨vs, H1v, I1, r1, ι1, l1, h1, P1⟩ := z
 have I1 : Inv X pins σ H1v s1 := I1.unwish
 refine ⟨I1.kIn, ?_⟩
 have sp : spY X.K C av n F vs H1v (fun _ _ => False) fun Cv dx H' => Cv = .ref C ∧ ∃ ι', Le X.K H ι H' ι' ∧ HRep X.K H' ι' H2 := ⟨ι1, ds, H1, i, H2, e2, h1, P1, e3, fun H' ι' dx l h z => ⟨rfl, ι', l1.trans l, h⟩⟩
 have hl : us.length = ps.length := by rw [← r1.length]; exact G.len _ _ _ _ sp
 have hb1 := hb s1 us I1.kIn (by rw [Xu]; exact hl)
 rw [Xu] at hb1
 refine Uaj (Uad (G.run X.A X.stack s1 H1v ⟨us, []⟩ us vs _ _ hr I1.env0 hb1 r1 sp) fun r s' hq => ?_)
 cases r with
 | ok fl' =>
  cases fl' with
  | ret u => obtain ⟨v, H', _, _, _, _, _, z⟩ := hq; exact z.elim
  | next => exact Ue hq
  | brk => exact Ue hq
  | cont => exact Ue hq
 | error e =>
  obtain ⟨ex, Cv, dx, H2v, rfl, ⟨rfl, ι2, l2, h2⟩, os, bare, un, hok, fy⟩ := hq
  obtain ⟨B, fly, bo, bt⟩ := fy.fly
  rw [hstk] at fly
  have frA : X.A.frames = some (X.env :: X.outer) := by rw [← hstk]; exact I1.ok.frames
  refine Zq7 frA hfr fly fun h4 held4 up4 => ?_
  refine Ze8 (s := { s' with heap := h4 }) held4 fun h5 fly5 up5 => ?_
  have ff : s'.heap.FunFrames B X.stack := by rw [hstk]; exact fly.ff
  obtain ⟨un5, ok5⟩ := Zmf un hok bo bt fly5.st (up4.trans up5) ff
  have I5 : Inv X pins σ H2v { s' with heap := h5 } := I1.call' (s' := { s' with heap := h5 }) (ch := []) os un5 ok5 bare (fun b z => absurd z (by simp))
  obtain ⟨ob, wb, gob, cob, dob, _⟩ := fly5.first
  have I5m : Inv (Xm X ex) pins σ H2v { s' with heap := h5 } := Inv.inM I5
  refine wpAny_handleBy_cons (Ubo (Zek (X := Xm X ex) I5m hgc hmc ?_ hdc)) (by intro z; cases z)
  have LT : Ucg (model X.prog X.w) h5 (typeOf (.ref ex)) (.ref C) := by rw [← cob]; exact (Looks.ld gob).andThen .now
  refine (exm_one (M := model X.prog X.w) I5.kIn LT hex).here ?_
  refine codeAny_handlers_suite ?_
  refine Ze8 (s := { s' with heap := h5 }) fly5 fun h6 fly6 up6 => ?_
  obtain ⟨un6, ok6⟩ := Zmf un hok bo bt fly6.st ((up4.trans up5).trans up6) ff
  have I6 : Inv X pins σ H2v { s' with heap := h6 } := I1.call' (s' := { s' with heap := h6 }) (ch := []) os un6 ok6 bare (fun b z => absurd z (by simp))
  have I6m : Inv (Xm X ex) pins σ H2v { s' with heap := h6 } := Inv.inM I6
  have st := hS ex pins _ σ H2v D I6m ⟨ι2, σd, H2, fl, σ2, H3, ss.mono l2, h2, e4, fun σ8 H8 ι8 l8 h8 s8 => q σ8 H8 ι8 (l2.trans l8) h8 s8⟩
  refine Vn st (fun f s8 z => ?_) fun _ _ z => z.elim
  cases f with
  | next => obtain ⟨σ8, H8, I8, z⟩ := z; exact ⟨σ8, H8, Inv.outM I1.ok I8, z⟩
  | ret u => obtain ⟨v, σ8, H8, I8, r, z⟩ := z; exact ⟨v, σ8, H8, Inv.outM I1.ok I8, r, z⟩
  | brk => obtain ⟨σ8, H8, I8, z⟩ := z; exact ⟨σ8, H8, Inv.outM I1.ok I8, z⟩
  | cont => obtain ⟨σ8, H8, I8, z⟩ := z; exact ⟨σ8, H8, Inv.outM I1.ok I8, z⟩
theorem Ztu {C : Ve} {k : Nat} {ps : List Str} {F : YFF} {fa : AF} {x xn xc tn : Str} {cV : Vb} {b₀ : Vw} {suite : List Vw} {a : Vq} {as : List Vq} {b su : SF} {p cp ep np hp tp pos : Pos}
  (hb0 : Zmv X.nox [.Assign [.Name tn tp] (.Call (.Name x p) (a :: as) [] cp) ep] b) (G : FnY X.prog X.w X.K X.mg X.base k x ps xn av F) (hE : X.mg xn = some (.ref C)) (hr : Room k X.A) (ha : PAf X.nox (a :: as) fa) (hmc : X.mg xc = some cV) (hex : exmOne X.K (.ref C) cV = some true) (hS : ∀ ex, Zmv (Xm X ex) (b₀ :: suite) su)
  (hstk : X.stack = X.env :: X.outer := by rfl) (hfr : X.env.frame = some X.env.locals := by rfl) (hg : Gl X x := by rfl) (hgc : Gl X xc := by rfl) (hdb : (x == ("__debug__" : Str)) = false := by decide) (hdc : (xc == ("__debug__" : Str)) = false := by decide)
  (he : starEach (a :: as) X.env = (false, eval a X.env) :: starEach as X.env := by exact Zau rfl) (hpl : (backTo cp (starEach as X.env)).any (·.1) = false := by exact Zbv rfl) (hs : swapsWith (.Call (.Name x p) (a :: as) [] cp) (some (.Name tn tp)) ep.line X.env = pure false := by rfl) :
  PSf X (.Try [.Assign [.Name tn tp] (.Call (.Name x p) (a :: as) [] cp) ep] [.ExceptHandler (some (.Name xc np)) none (b₀ :: suite) hp] [] [] pos) (Znm b (Zfe ps.length F fa) su) := by
 intro pins s σ H D I z
 obtain ⟨f, fd, G1, hb, hk, hm⟩ := G.ex
 obtain ⟨ι, σd, Hd, fl, σd', Hd', ss, hh, e, qq⟩ := z
 unfold Znm at e
 split at e
 ·rename_i r e1
  cases e
  refine Uaq (Vn (hb0 pins s σ H D (I.wish _) ⟨ι, σd, Hd, _, _, _, ss, hh, e1, qq⟩) (fun f s1 z => ?_) fun _ _ z => z.elim)
  have z : SP X pins D f s1 := z.unwish
  cases f with
  | next => exact Uag z
  | brk => exact z
  | cont => exact z
  | ret u => exact z
 ·obtain ⟨⟨i, H2⟩, e1, e2⟩ := Zo e
  exact Uaq (Uar (wpAny_Assign_Name (Zrf (Q := fun _ _ => False) hstk hfr (G1 C hE) hr hg hm hk hb ha hgc hmc hex hS hdb hdc he hpl I ⟨ι, σd, Hd, i, H2, fl, σd', Hd', ss, hh, e1, e2, qq⟩ |> fun h => Vn h (fun _ _ z => z.elim) fun _ _ z => z) hs))
end
section
variable {X : Cx} {iE : Nat} {ex : Ve} {av : Option Str} {i : Int} {dx : Option Ve} {a b : Vq} {pos : Pos}
theorem Ya5 {op : Ubw} {g : F2} {fa fb : EF} (ho : OpF X (binaryOp op) g) (ha : PEx X iE ex av i dx a fa) (hb : PEx X iE ex av i dx b fb) : PEx X iE ex av i dx (.BinOp a op b pos) (eOp g fa fb) := by
 refine PEi (Yci ho ha hb) fun σ H Q zz => ?_
 obtain ⟨ι, σd, Hd, d, Hd', sx, s, hr, e, q⟩ := zz
 obtain ⟨⟨x, H1⟩, e1, e⟩ := Zo e
 obtain ⟨⟨y, H2⟩, e2, e⟩ := Zo e
 exact ⟨ι, σd, Hd, x, H1, sx, s, hr, e1, fun v1 H1' ι1 l1 h1 r1 => ⟨ι1, σd, H1, y, H2, ⟨sx.at_, sx.xd.mono l1⟩, s.mono l1, h1, e2, fun v2 H2' ι2 l2 h2 r2 =>
  ⟨ι2, x, y, H2, d, Hd', h2, r1.mono l2, r2, e, fun v H' ι' l h r => q v H' ι' ((l1.trans l2).trans l) h r⟩⟩⟩
def IsiO (K : Ucd) (mg : Str -> Option Vb) (xn : Str) : Prop := ∀ C, mg xn = some (.ref C) -> kitOne K (.ref C) (.ref C) = some true
theorem Zyi {K : Ucd} {hp : Vu} {mg : Str -> Option Vb} {xn : Str} {C : Ve} (X : K.In hp) (G : hp.Ns mainGlobals mg) (a : nsIn K mainGlobals xn = some (some (.ref C))) (r : kitOne K (.ref C) (.ref C) = some true) : IsiO K mg xn := by
 intro C' h
 rw [Ze1 X G a] at h
 cases h
 exact r
theorem Zqe {C : Ve} {f xn en : Str} {k : Nat} {oe : Obj} {p1 p2 p3 p4 : Pos} (R : YRs X.prog X.w X.K X.mg X.base xn f k) (hE : X.mg xn = some (.ref C)) (J : IsiO X.K X.mg xn) (hc : oe.cls = .ref C) (mI : X.mg "isinstance" = none) (hi : X.N[iE]? = some en) (vE : Vis X.env.scope en) (gI : Gl X "isinstance" := by rfl) (gX : Gl X xn := by rfl)
  (dE : (en == ("__debug__" : Str)) = false := by decide) (dE2 : (en == ("__classdict__" : Str)) = false := by decide) (dX : (xn == ("__debug__" : Str)) = false := by decide) : PEx (Xh X ex oe) iE ex av i dx (.Call (.Name "isinstance" p1) [.Name en p2, .Name xn p3] [] p4) (eC (.bl true)) := by
 obtain ⟨Cl, fI, fd, ps, h2, h3, h4, h5, h6⟩ := R.at hE
 exact Zzb h6 hc (J C hE) hi vE mI hE gI gX dE dE2 dX
end
end DL
namespace DL
open PySem PySem.Spec PyProof.Rows L2
section
variable {prog : Vf} {w : Vk} {A : Vo} {E : Vb -> Vd -> Prop} {s : Vd}
theorem Zp5 {d L : Ve} {m : Str -> Option Vb} {es : Array Uab} {ep : Nat} {ns : List Int} {Q : Vb -> Vd -> Prop} (hn : s.heap.Ns L m) (hh : A.handled = none) (x : Zw3 d es ep s.heap) (hI : Uak (es.toList.map (·.key)) ns) (h64 : es.size < 64)
  (h : ∀ h' tk D out c, h'.Ns L m → (∀ b o, b ≠ L → s.heap.get? b = some o → h'.get? b = some o) → s.heap.objs.size ≤ D → h'.get? D = some (seqObj "list" out c) → KskOut false (ns.map Zgm) (es.toList.map (·.key)) out.toList → Q (.ref D) { s with heap := h', toks := tk }) :
  wpAny (model prog w) A (call (.builtin "sorted") [.ref d] [(Ub "key", .builtin "abs")]) Q E s := by
 have sz : sizeLine = 16777216 := Uae
 have lt := hn.lt
 refine Ubj kind_sorted plain_sorted entry_sorted (ksk_s1 _ _) ?_
 unfold Builtin.«sorted»
 refine Va (m := checkCount "sorted" 1 1 _) (Vc (Va (Znw (show A.in1.handled = none from hh) x (by omega) fun h1 tk k1 le => Va (Ubf ?_ (by simp; omega)))))
 generalize ev : es.toList.map (·.key) = vs at *
 have lv : vs.length = es.size := by rw [← ev]; simp
 let h2 : Vu := h1.push (seqObj "list" vs.toArray 0)
 have at2 : h2.get? h1.objs.size = some (seqObj "list" vs.toArray 0) := Xf _ rfl
 have kp : ∀ b o, s.heap.get? b = some o -> h2.get? b = some o := fun b o e => Xb _ (k1 b o e)
 have ltD : ∀ b o, s.heap.get? b = some o -> b ≠ h1.objs.size := fun b o e => Xo (Xl (Xe e) le)
 have LD : h1.objs.size ≠ L := Ui (Xo (Xl lt le))
 have F0 : Fr {} L s.heap m := ⟨hn, fun b o e => absurd ((Zgy b).symm.trans e) (by simp), Wak _⟩
 have N0 : News {} L s.heap (Zj2 s.heap L) := fun p hp => ⟨(Zdz hp).1, (Zdz hp).2, Zgy _⟩
 have ln : ns.length = vs.length := hI.length.symm
 show wpAny _ _ _ _ _ { s with heap := h2, toks := tk }
 refine Va (Vr (wpAny_call_entry_kw (s := { s with heap := h2, toks := tk }) slot_list_sort ⟨_, at2, rfl⟩ entry_list_sort ?body (ksk_l1 _ _)))
 case body =>
  show wpAny (model prog w) A.in1.in1 (Builtin.«list.sort» ⟨[.ref h1.objs.size], [(Ub "key", .builtin "abs")]⟩) _ _ _
  rw [ksk_t4]
  refine ksk_sort (s := { s with heap := h2, toks := tk }) (kz := ns.map Zgm) (news := Zj2 s.heap L) (F0.kept kp) (N0.grown kp) at2 LD (Zgy _) (fun p hp => ltD _ _ (Zdz hp).1)
   (by rw [Xk]; exact ln) (by omega) (fun i v k hv hk hh tk own F N => ?_) fun h' tk out c F' N' K' => ⟨_, rfl, ?_⟩
  ·obtain ⟨n, t, rfl, e⟩ := hI.at i v hv
   rw [Waf, e] at hk
   cases hk
   exact Ucb fun u tk' => KskEnd.intro F N fun p hp => hp
  ·refine Vc ⟨_, rfl, h h' tk _ out c F'.ns (fun b o hb e => ?_) le ?_ K'⟩
   ·exact (N' _ (Xw _ (Zlg hb e))).1
   ·exact (N' _ (Wav ..)).1
end
nonrec def Zh3 : FF := fun ds H => match ds with
 | [.ref n] => match H[n]? with
  | some (.dci kvs) => if kvs.length < 64 ∧ ((kvs.map (·.1)).map Zgm).Nodup then some (.ref H.length, H ++ [.lst ((Zco (kvs.map (·.1))).map .int)]) else none
  | _ => none
 | _ => none
theorem Zo3 {p : Vf} {w : Vk} {es : List Uab} {xs : List (Int × Vb)} (e : Pairs (Zu5 p w) es xs) : Uak (es.map (·.key)) (xs.map (·.1)) := by
 induction e with
 | nil => exact .nil
 | cons a b c ih =>
  obtain ⟨t, q⟩ := Zjo a
  rw [Xr, Xr, q]
  exact .cons _ t ih
theorem Zre {K : Xa} {H : Hp} {ι : List Ve} {kvs : List (Int × D)} {xs : List (Int × Vb)} (P : Vh (Zur K H ι) kvs xs) : kvs.map (·.1) = xs.map (·.1) := by
 induction P with
 | nil => rfl
 | cons a b ih => rw [Xr, Xr, a.1, ih]
theorem Zpo {X : Cx} {a : Vq} {f : AF} {p p2 kp pos : Pos} (hcm : X.calm = true) (hg : Gl X "sorted") (hm : X.mg "sorted" = none) (hg2 : Gl X "abs") (hm2 : X.mg "abs" = none) (ha : PAf X [a] f) (hs : starEach [a] X.env = [(false, eval a X.env)] := by rfl) :
  PEf X (.Call (.Name "sorted" p) [a] [⟨some "key", .Name "abs" p2, kp⟩] pos) (eCB Zh3 f) := by
 rintro pins s σ H Q I ⟨ι, σd, Hd, d, Hd', sr, hr, e, q⟩
 obtain ⟨⟨ds, H1⟩, e1, e⟩ := Zo e
 dsimp only at e
 unfold Zh3 at e
 split at e
 ·rename_i n
  split at e
  ·rename_i kvs eo
   split at e
   ·rename_i hc
    show wpAny _ _ (do callWith pos (← eval (.Name "sorted" p) X.env) [] (backTo pos (starEach [a] X.env)) (backToKw pos (keywordEach [⟨some "key", .Name "abs" p2, kp⟩] X.env))) _ _ _
    refine Va (Zfh I hg hm Zlp (callWith_builtin_kwB (by rw [hs]; rfl) rfl ?_))
    have hA := ha pos pins s σ H (fun vs H' => ∃ ι', Le X.K H ι H' ι' ∧ HRep X.K H' ι' H1 ∧ Vh (Rep X.K H' ι') [.ref n] vs) I ⟨ι, σd, Hd, _, _, sr, hr, e1, fun vs H' ι' l h P => ⟨ι', l, h, P⟩⟩
    rw [hs] at hA ⊢
    refine evalArgs_kwB rfl (thn hA fun us s1 ⟨vs, H2, I2, r2, ι2, l2, h2, P2⟩ => kws_cons (Zfh I2 hg2 hm2 Zrp (kws_nil ?_)))
    obtain ⟨v, rfl, r⟩ := Zl0 P2
    obtain ⟨u, rfl, ru⟩ := Zhl r2
    obtain ⟨ad, rfl, had⟩ := Za4.mp r
    cases ru
    obtain ⟨h3, xs, PK, dd⟩ := Zv5 I2 (h2.obj n ad _ had eo)
    obtain ⟨o, es, ep, g1, g2, g3, g4, g5, g6⟩ := dd
    show wpAny _ _ (call (.builtin "sorted") [.ref ad] [(Ub "key", .builtin "abs")]) _ _ _
    obtain ⟨m, hn, _⟩ := I2.loc
    have hI := Zo3 g5
    rw [← Zre PK] at hI
    have les : es.size = kvs.length := by
     have := hI.length
     simpa using this
    refine Zp5 hn (I2.ok.hd hcm) ⟨h3, o, g1, g2, g3⟩ hI (by omega) fun h' tk Da out c hn' kk hD hat K' => ?_
    have hO := Zwa hI hc.2 K'
    have hl : ((Zco (kvs.map (·.1))).map V.int).length ≤ sizeLine := by
     rw [Xk, (Zcc (kvs.map (·.1))).length_eq, Xk]
     have : sizeLine = 16777216 := Uae
     omega
    refine ⟨.ref Da, _, Zlf (o := .lst ((Zco (kvs.map (·.1))).map V.int)) I2 kk (fun m' hm' => by rw [hm'.eq_nsMap, ← hn.eq_nsMap]; exact hn') hD ⟨hl, out.toList, c, Zl5 hO, by simpa using hat⟩, rfl, ?_⟩
    have hz2 : ((Zco (kvs.map (·.1))).map D.int).length ≤ sizeLine := by simpa using hl
    exact (Zeq h2 (Zml (Zco (kvs.map (·.1)))) (show mkL ((Zco (kvs.map (·.1))).map D.int) H1 = some (d, Hd') by unfold mkL; rw [if_pos hz2, e]) (fun v H' ι' l h r => q v H' ι' (l2.trans l) h r)).2 _ (I2.hok.fresh hD)
   ·cases e
  ·cases e
 ·cases e
section
variable {X : Cx}
theorem Yaq : bootBuiltins "any" = some (.builtin "any") := by decide +kernel
nonrec def Yb2 : FF := fun ds H => match ds with
 | [.ref n] => match H[n]? with
  | some (.lst xs) => (Zzn xs).map fun bs => (.bl (bs.any id), H)
  | _ => none
 | _ => none
theorem Zp1 (bs : List Bool) : ((Wcw bs.length).any fun i => (bs[i]?).getD false) = bs.any id := by
 rw [Weg, Wau, Wau]
 constructor
 ·rintro ⟨i, hi, h⟩
  have hi : i < bs.length := by simpa using hi
  exact ⟨bs[i], Wag hi, by simpa [hi] using h⟩
 ·rintro ⟨x, hx, h⟩
  obtain ⟨i, hi, rfl⟩ := List.getElem_of_mem hx
  exact ⟨i, by simpa using hi, by simpa [hi] using h⟩
theorem Zsc (hc : X.calm = true) : Zi0 X (.builtin "any") Yb2 := by
 rintro pins s σ H xs us Q I rv ⟨ι, ds, Hd, d, Hd', hr, P, e, q⟩
 unfold Yb2 at e
 split at e
 ·rename_i n
  split at e
  ·rename_i ys eo
   obtain ⟨bs, e1, e⟩ := Zm e
   obtain ⟨rfl, rfl⟩ := Wba.inj e
   obtain ⟨v, rfl, r⟩ := Zl0 P
   obtain ⟨a, rfl, ha⟩ := Za4.mp r
   obtain ⟨vs, h1, P2⟩ := hr.obj n a _ ha eo
   cases rv with
   | cons rx rv =>
    cases rv
    cases rx
    obtain ⟨its, rv2, p, hz⟩ := I.list (SqL.of h1)
    have eits := Zlz e1 P2 rv2
    have hlt : a < s.heap.objs.size := by
     obtain ⟨o, ho, _⟩ := p.isList
     exact Xe ho
    refine call_any_walk (Uap p.isList ⟨s.heap.objs.size, [s.heap.objs.size, a], [s.heap.objs.size], its.toArray.size, _, _, fun i => (bs[i]?).getD false, rfl,
     Walks.list (A := X.A.in1) (show X.A.in1.handled = none from I.ok.hd hc) s.heap.objs.size a (Xo hlt) its.toArray, ⟨⟨_, Xf _ rfl, rfl, rfl⟩, p.isList.at fun o z => Xb _ z⟩, ?_, fun h' tk k => ?_⟩)
    ·intro i v s2 Q2 E2 hv hq
     rw [eits] at hv
     have hv2 : (bs.map Tcd)[i]? = some v := by simpa using hv
     rw [Waf] at hv2
     obtain ⟨b, hb, rfl⟩ := Zm hv2
     refine Vv ?_
     simpa [hb] using hq
    ·have hn : its.toArray.size = bs.length := by rw [eits]; simp
     rw [hn, Zp1]
     refine ⟨.bl (bs.any id), H, I.kept (t' := tk) fun b o z => k b o ?_ (Xb _ z), rfl, q _ H ι Le.refl hr (by simp)⟩
     intro hm
     have : b = s.heap.objs.size := by simpa using hm
     exact absurd (this ▸ Xe z) (Wbd _)
  ·cases e
 ·cases e
end
end DL
namespace DL
open PySem L2
theorem Zfu {n : Nat} (h : n ≤ 1000000) : n ≤ sizeLine := by rw [Tam]; omega
theorem Zmp {xs : List D} {i : Int} {d : D} (h0 : 0 ≤ i) (h : xs[i.toNat]? = some d) : atI xs i = some d := by
 have : i = (i.toNat : Int) := by omega
 rw [this]; exact Zef h
end DL
namespace LH
open PySem L2 DL
nonrec def Zas (l : Int) : Int := if l < 0 then -l else l
nonrec def Up (m : Int) : Int -> List Int -> Prop
 | _, [] => True
 | last, l :: r => last < Zas l ∧ Zas l ≤ m ∧ Up m (Zas l) r
theorem Zz4 {m : Int} : ∀ (ls : List Int) (last : Int), (ls.map Zas).Pairwise (· < ·) -> (∀ x ∈ ls.map Zas, last < x ∧ x ≤ m) -> Up m last ls
 | [], _, _, _ => trivial
 | l :: r, last, p, h => by
  rw [Xr, Wdk] at p
  have h1 := h (Zas l) (by simp)
  exact ⟨h1.1, h1.2, Zz4 r (Zas l) p.2 fun x hx => ⟨p.1 x hx, (h x (by rw [Xr]; exact Xw _ hx)).2⟩⟩
def Zbx (d : D) : Prop := d = .str "all" ∨ d = .str "some"
theorem Zgo (H : HD) (n : Nat) (i : Int) : toP H n (.int i) = some (.int i) := by cases n <;> rw [toP]
theorem Zv7 (H : HD) (n : Nat) (b : Bool) : toP H n (.bl b) = some (.bool b) := by cases n <;> rw [toP]
theorem Zx5 (H : HD) (n : Nat) : toP H n .non = some .none := by cases n <;> rw [toP]
theorem Zya (H : HD) (i : Int) : dat (.int i) H = some (.int i) := by
 simp [dat, Zgo, okP, Tac, Tay]
theorem Zz1 (i j : Int) (H : HD) : eqD (.int i) (.int j) H = some (.bl (i == j), H) := by
 simp [eqD, Zti, Zya, Ua]
structure Sh (x : Vs) (w dp : Nat) : Prop where
 lay : x.canLay0 = true
 sh : x.showable = true
 dep : x.depth ≤ dp
 lv : x.leavesShort 40 = true
 wt : x.weight ≤ w
def Zjb (d : D) (w dp : Nat) : Prop := ∃ x, (∀ H n, toP H n d = some x) ∧ Sh x w dp
theorem Zjb.bl {b : Bool} : Zjb (.bl b) 40 0 := ⟨.bool b, fun H n => Zv7 H n b, rfl, rfl, Xc _, rfl, Wak _⟩
theorem Zjb.non : Zjb .non 40 0 := ⟨.none, fun H n => Zx5 H n, rfl, rfl, Xc _, rfl, Wak _⟩
theorem Zj7 (H : HD) (n : Nat) (x : Str) : toP H n (.str x) = some (.str x) := by cases n <;> rw [toP]
theorem Zjb.str {x : Str} (h : Tba x = true) (h2 : (x.cps.toList.all fun c => decide (c < 16 ^ 8)) = true) (h3 : x.cps.size ≤ 40) : Zjb (.str x) 40 0 :=
 ⟨.str x, fun H n => Zj7 H n x, h, rfl, Xc _, h2, h3⟩
theorem Zce {x : Str} (h : (x.cps.toList.all fun c => decide (c < 0x110000)) = true) : Tba x = true := by
 unfold Tba
 rw [← Array.all_toList]
 exact h
theorem Zv1 (xs : List D) (k : Nat) : Zil xs (some (k : Int)) none = xs.drop k := by
 unfold Zil
 have h1 : HT.sIx xs.length 0 (some (k : Int)) = min k xs.length := by
  show (if (k : Int) < 0 then ((k : Int) + (xs.length : Int)).toNat else min (k : Int).toNat xs.length) = min k xs.length
  rw [if_neg (by omega), Xy]
 have h2 : HT.sIx xs.length xs.length none = xs.length := rfl
 rw [h1, h2]
 by_cases h : k ≤ xs.length
 ·rw [Nat.min_eq_left h]
  exact Wdw (by simp)
 ·rw [Nat.min_eq_right (by omega), Wdx (Xc _), Wdx (by omega)]
  simp
theorem Zvt (xs : List D) (k : Nat) : Zil xs none (some (k : Int)) = xs.take k := by
 unfold Zil
 have h1 : HT.sIx xs.length 0 none = 0 := rfl
 have h2 : HT.sIx xs.length xs.length (some (k : Int)) = min k xs.length := by
  show (if (k : Int) < 0 then ((k : Int) + (xs.length : Int)).toNat else min (k : Int).toNat xs.length) = min k xs.length
  rw [if_neg (by omega), Xy]
 rw [h1, h2]
 simp
theorem ac {f : EF} {g : AF} {σ : SD} {H H1 H2 : HD} {d : D} {ds : List D} (h1 : f σ H = some (d, H1)) (h2 : g σ H1 = some (ds, H2)) : Zaa f g σ H = some (d :: ds, H2) := by
 unfold Zaa; rw [h1]; simp only [Zb]; rw [h2]; rfl
theorem cb {g : FF} {f : AF} {σ : SD} {H H1 : HD} {ds : List D} {r : Option (D × HD)} (h1 : f σ H = some (ds, H1)) (h2 : g ds H1 = r) : eCB g f σ H = r := by
 unfold eCB; rw [h1]; exact h2
theorem tu {n : Nat} {xs : List D} {H : HD} (h : H[n]? = some (.lst xs)) : Zdc [.ref n] H = some (.tup xs, H) := by
 simp [Zdc, Zmh, h]
theorem tp {f : AF} {σ : SD} {H H1 : HD} {ds : List D} (h1 : f σ H = some (ds, H1)) (h2 : ds.length ≤ 1000000) : Zem f σ H = some (.tup ds, H1) := by
 unfold Zem; rw [h1]; exact if_pos (Zfu h2)
theorem ls {f : AF} {σ : SD} {H H1 : HD} {ds : List D} (h1 : f σ H = some (ds, H1)) (h2 : ds.length ≤ 1000000) : Zcb f σ H = some (.ref H1.length, H1 ++ [.lst ds]) := by
 unfold Zcb; rw [h1]; exact if_pos (Zfu h2)
theorem ca {n : Nat} {F : FF} {f : AF} {σ : SD} {H H1 : HD} {ds : List D} {r : Option (D × HD)} (h1 : f σ H = some (ds, H1)) (hl : ds.length = n) (h2 : F ds H1 = r) : Zam n F f σ H = r := by
 unfold Zam; rw [h1]; simp only [Zb]; rw [if_pos hl]; exact h2
theorem rt {f : EF} {σ : SD} {H H1 : HD} {d : D} (h : f σ H = some (d, H1)) : Zaw f σ H = some (.rt d, σ, H1) := by
 unfold Zaw; rw [h]; rfl
theorem op {g : F2} {fa fb : EF} {σ : SD} {H H1 H2 : HD} {d1 d2 : D} {r : Option (D × HD)} (h1 : fa σ H = some (d1, H1)) (h2 : fb σ H1 = some (d2, H2)) (h3 : g d1 d2 H2 = r) : eOp g fa fb σ H = r := by
 unfold eOp; rw [h1]; simp only [Zb]; rw [h2]; exact h3
theorem Ya8 {t : TF} {f g : SF} {σ : SD} {H H1 : HD} {b : Bool} (h : t σ H = some (b, H1)) : sIf t f g σ H = if b = true then f σ H1 else g σ H1 := by
 unfold sIf; rw [h]; rfl
theorem tof {f : EF} {σ : SD} {H H1 : HD} {b : Bool} (h : f σ H = some (.bl b, H1)) : tOf f σ H = some (b, H1) := by
 unfold tOf; rw [h]; rfl
theorem lenT (xs : List D) (H : HD) : Zb8 [.tup xs] H = some (.int xs.length, H) := by simp [Zb8, Zmh]
theorem ixT {xs : List D} {i : Int} {d : D} {H : HD} (h : atI xs i = some d) : ixD (.tup xs) (.int i) H = some (d, H) := by simp [ixD, Zmh, h]
theorem sl {fe : EF} {fl fh : OF} {σ : SD} {H H1 H2 H3 : HD} {d : D} {l h : Option Int} {r : Option (D × HD)} (h1 : fe σ H = some (d, H1)) (h2 : fl σ H1 = some (l, H2)) (h3 : fh σ H2 = some (h, H3)) (h4 : slD d l h H3 = r) : eSl fe fl fh σ H = r := by
 unfold eSl; rw [h1]; simp only [Zb]; rw [h2]; simp only [Zb]; rw [h3]; exact h4
theorem os {f : EF} {σ : SD} {H H1 : HD} {i : Int} (h : f σ H = some (.int i, H1)) : Zbh f σ H = some (some i, H1) := by
 unfold Zbh; rw [h]; rfl
theorem slhi {xs : List D} {k : Nat} {H : HD} : slD (.tup xs) none (some (k : Int)) H = some (.tup (xs.take k), H) := by
 rw [← Zvt]; rfl
theorem sllo {xs : List D} {k : Nat} {H : HD} : slD (.tup xs) (some (k : Int)) none H = some (.tup (xs.drop k), H) := by
 rw [← Zv1]; rfl
theorem adT {xs ys : List D} {H : HD} (h : xs.length + ys.length ≤ 1000000) : Zbb (.tup xs) (.tup ys) H = some (.tup (xs ++ ys), H) :=
 if_pos (Zfu (by rw [Wap]; exact h))
theorem suI (i j : Int) (H : HD) : Zi5 (.int i) (.int j) H = some (.int (i - j), H) := by simp [Zi5, iiD, CT]
theorem muT {xs : List D} {k : Int} {H : HD} (h1 : -1000 ≤ k) (h2 : k ≤ 1000) (h3 : xs.length ≤ 1000) : Zmi (.tup xs) (.int k) H = some (.tup (Xg k.toNat xs).flatten, H) := by
 have b : xs.length * k.toNat ≤ 1000 * 1000 := Nat.mul_le_mul h3 (by omega)
 have sz : sizeLine = 16777216 := Tam
 have c : -(2 ^ 63) ≤ k ∧ k < 2 ^ 63 ∧ xs.length * k.toNat ≤ sizeLine := ⟨by omega, by omega, by omega⟩
 have l : (Xg k.toNat xs).flatten.length ≤ sizeLine := by
  rw [List.length_flatten, Wex, List.sum_replicate_nat, Web]; omega
 show (if -(2 ^ 63) ≤ k ∧ k < 2 ^ 63 ∧ xs.length * k.toNat ≤ sizeLine then mkT (Xg k.toNat xs).flatten H else none) = _
 rw [if_pos c]
 exact if_pos l
nonrec def Za1 (ls : List Int) : D := .tup (ls.map .int)
theorem orF {t u : TF} {σ : SD} {H H1 : HD} (h : t σ H = some (false, H1)) : Zgl t u σ H = u σ H1 := by unfold Zgl; rw [h]; rfl
theorem orT {t u : TF} {σ : SD} {H H1 : HD} (h : t σ H = some (true, H1)) : Zgl t u σ H = some (true, H1) := by unfold Zgl; rw [h]; rfl
theorem anF {t u : TF} {σ : SD} {H H1 : HD} (h : t σ H = some (false, H1)) : tAn t u σ H = some (false, H1) := by unfold tAn; rw [h]; rfl
theorem anT {t u : TF} {σ : SD} {H H1 : HD} (h : t σ H = some (true, H1)) : tAn t u σ H = u σ H1 := by unfold tAn; rw [h]; rfl
theorem Sh.can' {x : Vs} {w dp : Nat} (h : Sh x w dp) (hw : w ≤ 390000) (hd : dp ≤ 30) : Zkr x = true := by
 have sz : sizeLine = 16777216 := Tam
 have l := PyData.shown_le 40 (by omega) x h.lv
 have h1 : x.shown.length ≤ sizeLine := by
  have := h.wt
  rw [sz]; omega
 have h2 : x.depth ≤ 30 := Xp h.dep hd
 simp [Zkr, h.lay, h.sh, h1, h2]
def OkE (H : HD) (d : D) : Prop := ∃ x, toP H 30 d = some x ∧ x.canLay0 = true ∧ x.depth ≤ 30
theorem OkE.dat {H : HD} {d : D} (h : OkE H d) : ∃ x, dat d H = some x ∧ toP H 30 d = some x := by
 obtain ⟨x, e, c, b⟩ := h
 refine ⟨x, ?_, e⟩
 unfold DL.dat
 rw [e]
 simp [okP, c, b]
nonrec def tyOf : D -> String
 | .non => "NoneType"
 | .bl _ => "bool"
 | .int _ => "int"
 | .str _ => "str"
 | .tup _ => "tuple"
 | .fl _ => "list"
 | .ref _ => "list"
 | _ => "?"
theorem OkE.ty {H : HD} {d : D} (h : OkE H d) : tyD d H = some (tyOf d) := by
 obtain ⟨x, e, _⟩ := h
 cases d with
 | ty c => rw [toP] at e; cases e
 | ref m =>
  rw [toP] at e
  simp only [tyD, tyOf]
  split at e
  ·rfl
  ·cases e
 | _ => rfl
theorem OkE.isi {H : HD} {d : D} (h : OkE H d) (c : String) (hc : Zo0 c = true) : Zhp [d, .ty c] H = some (.bl (tyOf d == c || (tyOf d == "bool" && c == "int")), H) := by
 simp [Zhp, hc, h.ty]
theorem Zvx : ∀ bs : List Bool, (!(bs.map Tbs).any fun z => Ua z (.bool false)) = bs.all id
 | [] => rfl
 | b :: r => by
  have ih := Zvx r
  rw [Xr, Wde, Bool.not_or, ih, Wdr]
  cases b <;> simp [Ua]
end LH
namespace WP
open PySem L2 DL LH
def wE (r : Option (D × HD)) (Q : D -> HD -> Prop) : Prop := ∃ d H, r = some (d, H) ∧ Q d H
def wT (r : Option (Bool × HD)) (Q : Bool -> HD -> Prop) : Prop := ∃ d H, r = some (d, H) ∧ Q d H
def wA (r : Option (List D × HD)) (Q : List D -> HD -> Prop) : Prop := ∃ d H, r = some (d, H) ∧ Q d H
def wO (r : Option (Option Int × HD)) (Q : Option Int -> HD -> Prop) : Prop := ∃ d H, r = some (d, H) ∧ Q d H
def wI (r : Option ((List D × Zhn) × HD)) (Q : List D -> Zhn -> HD -> Prop) : Prop := ∃ d o H, r = some ((d, o), H) ∧ Q d o H
def wG (r : Option (SD × HD)) (Q : SD -> HD -> Prop) : Prop := ∃ d H, r = some (d, H) ∧ Q d H
def wH (r : Option HD) (Q : HD -> Prop) : Prop := ∃ H, r = some H ∧ Q H
def wS (r : Option (FD × SD × HD)) (Q : FD -> SD -> HD -> Prop) : Prop := ∃ x d H, r = some (x, d, H) ∧ Q x d H
def wN (n : Nat) (F : FF) (ds : List D) (H : HD) (Q : D -> HD -> Prop) : Prop := ds.length = n ∧ wE (F ds H) Q
def br (b : Bool) (P Q : Prop) : Prop := (b = true -> P) ∧ (b = false -> Q)
nonrec def Ztd (k : SD -> HD -> Prop) (Q : FD -> SD -> HD -> Prop) : FD -> SD -> HD -> Prop
 | .nx, σ, H => k σ H
 | r, σ, H => Q r σ H
nonrec def fin (Q : D -> HD -> Prop) : FD -> SD -> HD -> Prop
 | .rt d, _, H => Q d H
 | .nx, _, H => Q .non H
 | _, _, _ => False
section
variable {σ : SD} {H : HD} {Q : D -> HD -> Prop}
theorem Zfd {r : Option (D × HD)} {d : D} {H : HD} (e : r = some (d, H)) (q : Q d H) : wE r Q := ⟨d, H, e, q⟩
theorem wS_of {Q : FD -> SD -> HD -> Prop} {r : Option (FD × SD × HD)} {x : FD} {d : SD} {H : HD} (e : r = some (x, d, H)) (q : Q x d H) : wS r Q := ⟨x, d, H, e, q⟩
theorem w_var {i : Nat} {d : D} (h : (σ[i]?).join = some d) (q : Q d H) : wE (Zac i σ H) Q := ⟨d, H, by unfold Zac; rw [h]; rfl, q⟩
theorem w_c {d : D} (q : Q d H) : wE (eC d σ H) Q := ⟨d, H, rfl, q⟩
theorem w_op {g : F2} {fa fb : EF} (h : wE (fa σ H) fun x H1 => wE (fb σ H1) fun y H2 => wE (g x y H2) Q) : wE (eOp g fa fb σ H) Q := by
 obtain ⟨x, H1, e1, y, H2, e2, d, H3, e3, q⟩ := h
 exact ⟨d, H3, op e1 e2 e3, q⟩
theorem w_un {g : D -> HD -> Option (D × HD)} {fa : EF} (h : wE (fa σ H) fun x H1 => wE (g x H1) Q) : wE (eUn g fa σ H) Q := by
 obtain ⟨x, H1, e1, d, H3, e3, q⟩ := h
 exact ⟨d, H3, by unfold eUn; rw [e1]; exact e3, q⟩
theorem w_ch {g g' : F2} {fa fb fc : EF} (h : wE (fa σ H) fun x H1 => wE (fb σ H1) fun y H2 => wE (g x y H2) fun z H3 => ∃ k, z = .bl k ∧ br k (wE (fc σ H3) fun w H4 => wE (g' y w H4) Q) (Q (.bl false) H3)) : wE (eCh g g' fa fb fc σ H) Q := by
 obtain ⟨x, H1, e1, y, H2, e2, z, H3, e3, k, rfl, b1, b2⟩ := h
 unfold eCh
 rw [e1]; simp only [Zb]; rw [e2]; simp only [Zb]; rw [e3]; simp only [Zb, blD]
 cases k with
 | true =>
  obtain ⟨w, H4, e4, d, H5, e5, q⟩ := b1 rfl
  exact ⟨d, H5, by rw [if_pos rfl, e4]; exact e5, q⟩
 | false => exact ⟨.bl false, H3, by rw [if_neg (by simp)], b2 rfl⟩
theorem w_tof {f : EF} {Q : Bool -> HD -> Prop} (h : wE (f σ H) fun d H1 => ∃ b, d = .bl b ∧ Q b H1) : wT (tOf f σ H) Q := by
 obtain ⟨d, H1, e, b, rfl, q⟩ := h
 exact ⟨b, H1, tof e, q⟩
theorem w_bl {b : Bool} {P : Bool -> Prop} (h : P b) : ∃ c, D.bl b = .bl c ∧ P c := ⟨b, rfl, h⟩
theorem w_ttru {f : EF} {Q : Bool -> HD -> Prop} (h : wE (f σ H) fun d H1 => ∃ b, Zth d H1 = some b ∧ Q b H1) : wT (Ze4 f σ H) Q := by
 obtain ⟨d, H1, e, b, e2, q⟩ := h
 exact ⟨b, H1, by unfold Ze4; rw [e]; simp only [Zb]; rw [e2]; rfl, q⟩
theorem w_no {t : TF} {Q : Bool -> HD -> Prop} (h : wT (t σ H) fun b H1 => Q (!b) H1) : wT (tNo t σ H) Q := by
 obtain ⟨b, H1, e, q⟩ := h
 exact ⟨!b, H1, by unfold tNo; rw [e]; rfl, q⟩
theorem w_an {t u : TF} {Q : Bool -> HD -> Prop} (h : wT (t σ H) fun b H1 => br b (wT (u σ H1) Q) (Q false H1)) : wT (tAn t u σ H) Q := by
 obtain ⟨b, H1, e, q1, q2⟩ := h
 cases b with
 | true => obtain ⟨c, H2, e2, q⟩ := q1 rfl; exact ⟨c, H2, (anT e).trans e2, q⟩
 | false => exact ⟨false, H1, anF e, q2 rfl⟩
theorem w_or {t u : TF} {Q : Bool -> HD -> Prop} (h : wT (t σ H) fun b H1 => br b (Q true H1) (wT (u σ H1) Q)) : wT (Zgl t u σ H) Q := by
 obtain ⟨b, H1, e, q1, q2⟩ := h
 cases b with
 | true => exact ⟨true, H1, orT e, q1 rfl⟩
 | false => obtain ⟨c, H2, e2, q⟩ := q2 rfl; exact ⟨c, H2, (orF e).trans e2, q⟩
theorem w_eno {f : EF} (h : wE (f σ H) fun d H1 => ∃ b, d = .bl b ∧ Q (.bl (!b)) H1) : wE (eNo f σ H) Q := by
 obtain ⟨d, H1, e, b, rfl, q⟩ := h
 exact ⟨.bl (!b), H1, by unfold eNo; rw [e]; rfl, q⟩
theorem w_ean {f g : EF} (h : wE (f σ H) fun d H1 => ∃ b, d = .bl b ∧ br b (wE (g σ H1) Q) (Q (.bl false) H1)) : wE (eAn f g σ H) Q := by
 obtain ⟨d, H1, e, b, rfl, q1, q2⟩ := h
 unfold eAn
 rw [e]; simp only [Zb, blD]
 cases b with
 | true => rw [if_pos rfl]; exact q1 rfl
 | false => rw [if_neg (by simp)]; exact ⟨_, _, rfl, q2 rfl⟩
theorem w_anil {Q : List D -> HD -> Prop} (q : Q [] H) : wA (Zae σ H) Q := ⟨[], H, rfl, q⟩
theorem w_acons {f : EF} {g : AF} {Q : List D -> HD -> Prop} (h : wE (f σ H) fun d H1 => wA (g σ H1) fun ds H2 => Q (d :: ds) H2) : wA (Zaa f g σ H) Q := by
 obtain ⟨d, H1, e1, ds, H2, e2, q⟩ := h
 exact ⟨d :: ds, H2, ac e1 e2, q⟩
theorem w_cb {g : FF} {f : AF} (h : wA (f σ H) fun ds H1 => wE (g ds H1) Q) : wE (eCB g f σ H) Q := by
 obtain ⟨ds, H1, e1, d, H2, e2, q⟩ := h
 exact ⟨d, H2, cb e1 e2, q⟩
theorem w_call {n : Nat} {F : FF} {f : AF} (h : wA (f σ H) fun ds H1 => wN n F ds H1 Q) : wE (Zam n F f σ H) Q := by
 obtain ⟨ds, H1, e1, hl, d, H2, e2, q⟩ := h
 exact ⟨d, H2, ca e1 hl e2, q⟩
theorem w_n {n : Nat} {F : FF} {ds : List D} (hl : ds.length = n) (h : wE (F ds H) Q) : wN n F ds H Q := ⟨hl, h⟩
theorem w_tup {f : AF} (h : wA (f σ H) fun ds H1 => ds.length ≤ 1000000 ∧ Q (.tup ds) H1) : wE (Zem f σ H) Q := by
 obtain ⟨ds, H1, e1, hl, q⟩ := h
 exact ⟨_, H1, tp e1 hl, q⟩
theorem w_lst {f : AF} (h : wA (f σ H) fun ds H1 => ds.length ≤ 1000000 ∧ Q (.ref H1.length) (H1 ++ [.lst ds])) : wE (Zcb f σ H) Q := by
 obtain ⟨ds, H1, e1, hl, q⟩ := h
 exact ⟨_, _, ls e1 hl, q⟩
theorem w_lm {g : D -> List D -> HD -> Option (D × HD)} {fo : EF} {f : AF} (h : wE (fo σ H) fun o H1 => Znp o H1 = true ∧ wA (f σ H1) fun ds H2 => wE (g o ds H2) Q) : wE (eLM g fo f σ H) Q := by
 obtain ⟨o, H1, e1, i, ds, H2, e2, d, H3, e3, q⟩ := h
 exact ⟨d, H3, by unfold eLM; rw [e1]; simp only [Zb]; rw [if_pos i, e2]; exact e3, q⟩
theorem w_on {Q : Option Int -> HD -> Prop} (q : Q none H) : wO (Zb0 σ H) Q := ⟨none, H, rfl, q⟩
theorem w_os {f : EF} {Q : Option Int -> HD -> Prop} (h : wE (f σ H) fun d H1 => ∃ i, d = .int i ∧ Q (some i) H1) : wO (Zbh f σ H) Q := by
 obtain ⟨d, H1, e, i, rfl, q⟩ := h
 exact ⟨some i, H1, os e, q⟩
theorem w_int {i : Int} {P : Int -> Prop} (h : P i) : ∃ c, D.int i = .int c ∧ P c := ⟨i, rfl, h⟩
theorem w_sl {fe : EF} {fl fh : OF} (h : wE (fe σ H) fun x H1 => wO (fl σ H1) fun l H2 => wO (fh σ H2) fun u H3 => wE (slD x l u H3) Q) : wE (eSl fe fl fh σ H) Q := by
 obtain ⟨x, H1, e1, l, H2, e2, u, H3, e3, d, H4, e4, q⟩ := h
 exact ⟨d, H4, sl e1 e2 e3 e4, q⟩
theorem w_rv {fe : EF} (h : wE (fe σ H) fun x H1 => ∃ xs, x = .tup xs ∧ xs.length ≤ 1000000 ∧ Q (.tup xs.reverse) H1) : wE (eRv fe σ H) Q := by
 obtain ⟨x, H1, e1, xs, rfl, hl, q⟩ := h
 exact ⟨_, H1, by unfold eRv; rw [e1]; exact if_pos (Zfu (by rw [Wep]; exact hl)), q⟩
variable {R : FD -> SD -> HD -> Prop}
theorem w_snil (q : R .nx σ H) : wS (Zaj σ H) R := ⟨_, _, _, rfl, q⟩
theorem w_seq {f g : SF} (h : wS (f σ H) (Ztd (fun σ1 H1 => wS (g σ1 H1) R) R)) : wS (Zaf f g σ H) R := by
 obtain ⟨x, σ1, H1, e, k⟩ := h
 unfold Zaf
 rw [e]; simp only [Zb]
 cases x with
 | nx => exact k
 | bk => exact ⟨_, _, _, rfl, k⟩
 | ct => exact ⟨_, _, _, rfl, k⟩
 | rt d => exact ⟨_, _, _, rfl, k⟩
theorem w_kn {k : SD -> HD -> Prop} (h : k σ H) : Ztd k R .nx σ H := h
theorem w_kr {k : SD -> HD -> Prop} {d : D} (h : R (.rt d) σ H) : Ztd k R (.rt d) σ H := h
theorem Zm9 {r : Option (FD × SD × HD)} {k : SD -> HD -> Prop} (J : SD -> HD -> Prop) (h : wS r fun x σ H => x = .nx ∧ J σ H) (q : ∀ σ H, J σ H -> k σ H) : wS r (Ztd k R) := by
 obtain ⟨x, s, H, e, rfl, j⟩ := h
 exact ⟨_, s, H, e, q s H j⟩
theorem w_fr {d : D} (h : Q d H) : fin Q (.rt d) σ H := h
theorem w_ret {f : EF} (h : wE (f σ H) fun d H1 => R (.rt d) σ H1) : wS (Zaw f σ H) R := by
 obtain ⟨d, H1, e, q⟩ := h; exact ⟨_, _, _, rt e, q⟩
theorem w_expr {f : EF} (h : wE (f σ H) fun d H1 => R .nx σ H1) : wS (Zdf f σ H) R := by
 obtain ⟨d, H1, e, q⟩ := h; exact ⟨_, _, _, by unfold Zdf; rw [e]; rfl, q⟩
theorem w_if {t : TF} {f g : SF} (h : wT (t σ H) fun b H1 => br b (wS (f σ H1) R) (wS (g σ H1) R)) : wS (sIf t f g σ H) R := by
 obtain ⟨b, H1, e, q1, q2⟩ := h
 rw [Ya8 e]
 cases b with
 | true => rw [if_pos rfl]; exact q1 rfl
 | false => rw [if_neg (by simp)]; exact q2 rfl
theorem w_set {i : Nat} {f : EF} (h : wE (f σ H) fun d H1 => R .nx (σ.set i (some d)) H1) : wS (Zax i f σ H) R := by
 obtain ⟨d, H1, e, q⟩ := h; exact ⟨_, _, _, by unfold Zax; rw [e]; rfl, q⟩
theorem w_asg {f : EF} {g : GF} (h : wE (f σ H) fun d H1 => wG (g d σ H1) fun σ2 H2 => R .nx σ2 H2) : wS (Yck f g σ H) R := by
 obtain ⟨d, H1, e, σ2, H2, e2, q⟩ := h; exact ⟨_, _, _, by unfold Yck; rw [e]; simp only [Zb]; rw [e2]; rfl, q⟩
theorem w_gnm {i : Nat} {d : D} {Q : SD -> HD -> Prop} (h : Q (σ.set i (some d)) H) : wG (gNm i d σ H) Q := ⟨_, _, rfl, h⟩
theorem w_gsb {fo fi : EF} {g : Zzl} {d : D} {Q : SD -> HD -> Prop} (h : wE (fo σ H) fun o H1 => wE (fi σ H1) fun i H2 => wH (g o i d H2) fun H3 => Q σ H3) : wG (gSb fo fi g d σ H) Q := by
 obtain ⟨o, H1, e1, i, H2, e2, H3, e3, q⟩ := h
 exact ⟨σ, H3, by unfold gSb; rw [e1]; simp only [Zb]; rw [e2]; simp only [Zb]; rw [e3]; rfl, q⟩
theorem w_gtp {n : Nat} {g : GFs} {ds : List D} {Q : SD -> HD -> Prop} (hl : ds.length = n) (h : wG (g ds σ H) Q) : wG (gTp n g (.tup ds) σ H) Q := by
 obtain ⟨s, H1, e, q⟩ := h
 exact ⟨s, H1, by unfold gTp; simp only [if_pos hl]; exact e, q⟩
theorem w_gnl {Q : SD -> HD -> Prop} (h : Q σ H) : wG (gNl [] σ H) Q := ⟨_, _, rfl, h⟩
theorem w_gcn {g : GF} {h : GFs} {d : D} {r : List D} {Q : SD -> HD -> Prop} (q : wG (g d σ H) fun σ1 H1 => wG (h r σ1 H1) Q) : wG (gCn g h (d :: r) σ H) Q := by
 obtain ⟨s, H1, e, s2, H2, e2, q⟩ := q
 exact ⟨s2, H2, by unfold gCn; simp only; rw [e]; exact e2, q⟩
theorem w_for {it : ItF} {g : GF} {b : SF} (h : wI (it σ H) fun xs own H1 => wS (Zi4 own g b xs σ H1) R) : wS (Zgn it g b σ H) R := by
 obtain ⟨xs, own, H1, e, q⟩ := h
 unfold Zgn; rw [e]; exact q
theorem Za2 {n N : Nat} {b : SF} {ds : List D} (hl : ds.length = n) (h : wS (b (ds.map some ++ Xg (N - ds.length) none) H) (fin Q)) : wE (Za0 n N b ds H) Q := by
 obtain ⟨x, s, H1, e, q⟩ := h
 unfold Za0
 rw [if_pos hl, e]
 simp only [Zb]
 cases x with
 | nx => exact ⟨_, _, rfl, q⟩
 | rt d => exact ⟨_, _, rfl, q⟩
 | bk => exact q.elim
 | ct => exact q.elim
theorem w_lc {it : ItF} {ci : List Nat} {tt : TF} {te : EF} (h : wI (it σ H) fun xs own H1 => wA (Zeo own (Zzk ci σ) tt te xs H1) fun ds H2 => ds.length ≤ 1000000 ∧ Q (.ref H2.length) (H2 ++ [.lst ds])) : wE (eLC it ci tt te σ H) Q := by
 obtain ⟨xs, own, H1, e, ds, H2, e2, hl, q⟩ := h
 exact ⟨_, _, by unfold eLC; rw [e]; simp only [Zb]; rw [e2]; exact if_pos (Zfu hl), q⟩
theorem w_bt {P S : Prop} (h : P) : br true P S := ⟨fun _ => h, nofun⟩
theorem w_bf {P S : Prop} (h : S) : br false P S := ⟨nofun, fun _ => h⟩
theorem w_bnt {P S : Prop} (h : P) : br (!false) P S := ⟨fun _ => h, nofun⟩
theorem w_bnf {P S : Prop} (h : S) : br (!true) P S := ⟨nofun, fun _ => h⟩
theorem w_bT {b : Bool} {P S : Prop} (e : b = true) (h : P) : br b P S := by subst e; exact w_bt h
theorem w_bF {b : Bool} {P S : Prop} (e : b = false) (h : S) : br b P S := by subst e; exact w_bf h
theorem w_sz {ds : List D} {P : Prop} (h : ds.length ≤ 1000000) (q : P) : ds.length ≤ 1000000 ∧ P := ⟨h, q⟩
theorem w_addI {i j : Int} (q : Q (.int (i + j)) H) : wE (Zbb (.int i) (.int j) H) Q := ⟨_, _, rfl, q⟩
theorem w_addT {a b : List D} (h : a.length + b.length ≤ 1000000) (q : Q (.tup (a ++ b)) H) : wE (Zbb (.tup a) (.tup b) H) Q := ⟨_, _, adT h, q⟩
theorem w_subI {i j : Int} (q : Q (.int (i - j)) H) : wE (Zi5 (.int i) (.int j) H) Q := ⟨_, _, suI i j H, q⟩
theorem w_lt {i j : Int} (q : Q (.bl (decide (i < j))) H) : wE (ltD (.int i) (.int j) H) Q := ⟨_, _, by simp [ltD, iiD, CT], q⟩
theorem w_le {i j : Int} (q : Q (.bl (decide (i ≤ j))) H) : wE (leD (.int i) (.int j) H) Q := ⟨_, _, by simp [leD, iiD, CT], q⟩
theorem w_gt {i j : Int} (q : Q (.bl (decide (j < i))) H) : wE (gtD (.int i) (.int j) H) Q := ⟨_, _, by simp [gtD, iiD, CT], q⟩
theorem w_ge {i j : Int} (q : Q (.bl (decide (j ≤ i))) H) : wE (geD (.int i) (.int j) H) Q := ⟨_, _, by simp [geD, iiD, CT], q⟩
theorem w_mod {i j : Int} (h : 0 < j) (q : Q (.int (i % j)) H) : wE (Zb4 (.int i) (.int j) H) Q := ⟨_, _, by have c : Yad i j := h; simp [Zb4, iiD, c], q⟩
theorem w_fdiv {i j : Int} (h : 0 < j) (h2 : j < 1073741824) (q : Q (.int (i / j)) H) : wE (Zkw (.int i) (.int j) H) Q := ⟨_, _, by have c : Yaj i j := ⟨h, h2⟩; simp [Zkw, iiD, c], q⟩
theorem w_mulL {i j : Int} (h1 : -(2 ^ 64) < i) (h2 : i < 2 ^ 64) (q : Q (.int (i * j)) H) : wE (Zmi (.int i) (.int j) H) Q := ⟨_, _, by have c : Zv9 i j := .inl ⟨h1, h2⟩; simp [Zmi, c], q⟩
theorem w_mulR {i j : Int} (h1 : -(2 ^ 64) < j) (h2 : j < 2 ^ 64) (q : Q (.int (i * j)) H) : wE (Zmi (.int i) (.int j) H) Q := ⟨_, _, by have c : Zv9 i j := .inr ⟨h1, h2⟩; simp [Zmi, c], q⟩
theorem Zs0 {i j : Int} (h1 : 0 ≤ j) (h2 : j ≤ 1000000) (h3 : i.natAbs < 2 ^ 64) (q : Q (.int (i ^ j.toNat)) H) : wE (Zwj (.int i) (.int j) H) Q := ⟨_, _, by have c : Yar i j := ⟨h1, h2, h3⟩; simp [Zwj, iiD, c], q⟩
theorem w_neg {i : Int} (q : Q (.int (-i)) H) : wE (Zme (.int i) H) Q := ⟨_, _, rfl, q⟩
theorem w_eqI {i j : Int} (q : Q (.bl (i == j)) H) : wE (eqD (.int i) (.int j) H) Q := ⟨_, _, Zz1 _ _ _, q⟩
theorem w_eqS {a b : Str} (q : Q (.bl (a == b)) H) : wE (eqD (.str a) (.str b) H) Q := ⟨_, _, rfl, q⟩
theorem w_neS {a b : Str} (q : Q (.bl (a != b)) H) : wE (neD (.str a) (.str b) H) Q := ⟨_, _, rfl, q⟩
theorem w_lenT {xs : List D} (q : Q (.int xs.length) H) : wE (Zb8 [.tup xs] H) Q := ⟨_, _, lenT xs H, q⟩
theorem w_lenR {n : Nat} {xs : List D} (h : H[n]? = some (.lst xs)) (q : Q (.int xs.length) H) : wE (Zb8 [.ref n] H) Q := ⟨_, _, by simp [Zb8, Zmh, h], q⟩
theorem w_lenF {xs : List D} (q : Q (.int xs.length) H) : wE (Zb8 [.fl xs] H) Q := ⟨_, _, by simp [Zb8, Zmh], q⟩
theorem w_abs {i : Int} (q : Q (.int (Zas i)) H) : wE (Zpu [.int i] H) Q := ⟨_, _, rfl, q⟩
theorem w_ixT {xs : List D} {i : Int} {d : D} (h : atI xs i = some d) (q : Q d H) : wE (ixD (.tup xs) (.int i) H) Q := ⟨_, _, ixT h, q⟩
theorem w_ixR {n : Nat} {xs : List D} {i : Int} {d : D} (g : H[n]? = some (.lst xs)) (h : atI xs i = some d) (q : Q d H) : wE (ixD (.ref n) (.int i) H) Q := ⟨_, _, by simp [ixD, Zmh, g, h], q⟩
theorem w_ixF {xs : List D} {i : Int} {d : D} (h : atI xs i = some d) (q : Q d H) : wE (ixD (.fl xs) (.int i) H) Q := ⟨_, _, by simp [ixD, Zmh, h], q⟩
theorem w_intB {b : Bool} (q : Q (.int (if b then 1 else 0)) H) : wE (Yb7 [.bl b] H) Q := ⟨_, _, rfl, q⟩
theorem w_max {i j : Int} (q : Q (.int (if j > i then j else i)) H) : wE (Zzi [.int i, .int j] H) Q := ⟨_, _, rfl, q⟩
theorem w_tupR {n : Nat} {xs : List D} (h : H[n]? = some (.lst xs)) (q : Q (.tup xs) H) : wE (Zdc [.ref n] H) Q := ⟨_, _, tu h, q⟩
theorem Zgv {n : Nat} {xs : List D} {d : D} (h : H[n]? = some (.lst xs)) (hl : xs.length < 1000000) (q : Q .non (H.set n (.lst (xs ++ [d])))) : wE (Zbd (.ref n) [d] H) Q :=
 ⟨_, _, by simp [Zbd, h, Xl hl (Zfu (Xc _))], q⟩
theorem w_isi {d : D} {c t : String} (ha : Zo0 c = true) (h : tyD d H = some t) (q : Q (.bl (t == c || (t == "bool" && c == "int"))) H) : wE (Zhp [d, .ty c] H) Q := ⟨_, _, by simp [Zhp, ha, h], q⟩
theorem w_isN {d : D} {b : Bool} (h : isB d .non = some b) (q : Q (.bl b) H) : wE (isD d .non H) Q := ⟨_, _, by simp [isD, h], q⟩
theorem w_isnN {d : D} {b : Bool} (h : isB d .non = some b) (q : Q (.bl (!b)) H) : wE (Ybn d .non H) Q := ⟨_, _, by simp [Ybn, h], q⟩
theorem w_truB {b : Bool} {P : Bool -> Prop} (h : P b) : ∃ c, Zth (.bl b) H = some c ∧ P c := ⟨b, rfl, h⟩
theorem w_isi' {d : D} {c t : String} {r : Bool} (ha : Zo0 c = true) (h : tyD d H = some t) (hr : (t == c || (t == "bool" && c == "int")) = r) (q : Q (.bl r) H) : wE (Zhp [d, .ty c] H) Q := w_isi ha h (by rw [hr]; exact q)
theorem w_eqS' {a b : Str} {r : Bool} (hr : (a == b) = r) (q : Q (.bl r) H) : wE (eqD (.str a) (.str b) H) Q := w_eqS (by rw [hr]; exact q)
theorem w_eqI' {a b : Int} {r : Bool} (hr : (a == b) = r) (q : Q (.bl r) H) : wE (eqD (.int a) (.int b) H) Q := w_eqI (by rw [hr]; exact q)
theorem w_slhi {xs : List D} {k : Nat} (q : Q (.tup (xs.take k)) H) : wE (slD (.tup xs) none (some (k : Int)) H) Q := ⟨_, _, slhi, q⟩
theorem w_sllo {xs : List D} {k : Nat} (q : Q (.tup (xs.drop k)) H) : wE (slD (.tup xs) (some (k : Int)) none H) Q := ⟨_, _, sllo, q⟩
theorem w_sllo1 {xs : List D} {k : Nat} (q : Q (.tup (xs.drop (k + 1))) H) : wE (slD (.tup xs) (some ((k : Int) + 1)) none H) Q := ⟨_, _, sllo (k := k + 1), q⟩
variable {I : List D -> Zhn -> HD -> Prop}
theorem w_isq {f : EF} (h : wE (f σ H) fun d H1 => ∃ xs own, Ziu d H1 = some (xs, own) ∧ I xs own H1) : wI (iSq f σ H) I := by
 obtain ⟨d, H1, e, xs, own, e2, q⟩ := h
 exact ⟨xs, own, H1, by unfold iSq; rw [e]; simp only [Zb]; rw [e2]; rfl, q⟩
theorem w_itT {xs : List D} {P : List D -> Zhn -> Prop} (h : P xs []) : ∃ ys own, Ziu (.tup xs) H = some (ys, own) ∧ P ys own := ⟨_, _, rfl, h⟩
theorem w_itR {n : Nat} {xs : List D} {P : List D -> Zhn -> Prop} (g : H[n]? = some (.lst xs)) (h : P xs [(n, .lst xs)]) : ∃ ys own, Ziu (.ref n) H = some (ys, own) ∧ P ys own := ⟨_, _, by simp [Ziu, g], h⟩
theorem w_ir1 {f : AF} (h : wA (f σ H) fun ds H1 => ∃ j, ds = [.int j] ∧ Zn5 j ∧ I (Zaq 0 j.toNat) [] H1) : wI (iR1 f σ H) I := by
 obtain ⟨ds, H1, e, j, rfl, s, q⟩ := h
 exact ⟨_, _, H1, by unfold iR1; rw [e]; exact if_pos s, q⟩
theorem w_enum {f : AF} (h : wA (f σ H) fun ds H1 => ∃ xs, ds = [.tup xs] ∧ I (Zb9 0 xs) [] H1) : wI (Zr1 f σ H) I := by
 obtain ⟨ds, H1, e, xs, rfl, q⟩ := h
 exact ⟨_, _, H1, by unfold Zr1; rw [e]; rfl, q⟩
theorem Zwc {own : Zhn} {g : GF} {b : SF} (h : Zct own H) (q : R .nx σ H) : wS (Zi4 own g b [] σ H) R := ⟨_, _, _, by rw [Zi4, if_pos h], q⟩
nonrec def again (k : SD -> HD -> Prop) (R : FD -> SD -> HD -> Prop) : FD -> SD -> HD -> Prop
 | .nx, σ, H => k σ H
 | .ct, σ, H => k σ H
 | .bk, σ, H => R .nx σ H
 | .rt d, σ, H => R (.rt d) σ H
theorem Zr0 {own : Zhn} {g : GF} {b : SF} {x : D} {r : List D} (h : Zct own H) (q : wG (g x σ H) fun σ1 H1 => wS (b σ1 H1) (again (fun σ2 H2 => wS (Zi4 own g b r σ2 H2) R) R)) : wS (Zi4 own g b (x :: r) σ H) R := by
 obtain ⟨σ1, H1, e1, y, σ2, H2, e2, q⟩ := q
 rw [Zi4, if_pos h, e1]
 simp only [Zb]
 rw [e2]
 cases y with
 | nx => exact q
 | ct => exact q
 | bk => exact ⟨_, _, _, rfl, q⟩
 | rt d => exact ⟨_, _, _, rfl, q⟩
theorem w_agn {k : SD -> HD -> Prop} (h : k σ H) : again k R .nx σ H := h
theorem w_agr {k : SD -> HD -> Prop} {d : D} (h : R (.rt d) σ H) : again k R (.rt d) σ H := h
theorem Zby {own : Zhn} {g : GF} {b : SF} (Inv : List D -> List D -> SD -> HD -> Prop) (ho : ∀ d t σ H, Inv d t σ H -> Zct own H)
  (st : ∀ d x t σ H, Inv d (x :: t) σ H -> wG (g x σ H) fun σ1 H1 => wS (b σ1 H1) (again (fun σ2 H2 => Inv (d ++ [x]) t σ2 H2) R))
  (q : ∀ d σ H, Inv d [] σ H -> R .nx σ H) : ∀ (t d : List D) (σ : SD) (H : HD), Inv d t σ H -> wS (Zi4 own g b t σ H) R
 | [], d, σ, H, i => Zwc (ho _ _ _ _ i) (q d σ H i)
 | x :: t, d, σ, H, i => by
  refine Zr0 (ho _ _ _ _ i) ?_
  obtain ⟨σ1, H1, e1, y, σ2, H2, e2, k⟩ := st d x t σ H i
  refine ⟨σ1, H1, e1, y, σ2, H2, e2, ?_⟩
  cases y with
  | nx => exact Zby Inv ho st q t _ σ2 H2 k
  | ct => exact Zby Inv ho st q t _ σ2 H2 k
  | bk => exact k
  | rt d => exact k
theorem Zix {own : Zhn} {g : GF} {b : SF} (Inv : SD -> HD -> Prop) (ho : ∀ σ H, Inv σ H -> Zct own H) : ∀ (xs : List D) (st : ∀ x ∈ xs, ∀ σ H, Inv σ H -> wG (g x σ H) fun σ1 H1 => wS (b σ1 H1) (again Inv R)) (σ : SD) (H : HD), Inv σ H -> (∀ σ H, Inv σ H -> R .nx σ H) -> wS (Zi4 own g b xs σ H) R
 | [], st, σ, H, i, q => Zwc (ho _ _ i) (q σ H i)
 | x :: t, st, σ, H, i, q => by
  refine Zr0 (ho _ _ i) ?_
  obtain ⟨σ1, H1, e1, y, σ2, H2, e2, k⟩ := st x (by simp) σ H i
  refine ⟨σ1, H1, e1, y, σ2, H2, e2, ?_⟩
  cases y with
  | nx => exact Zix Inv ho t (fun z hz => st z (by simp [hz])) σ2 H2 k q
  | ct => exact Zix Inv ho t (fun z hz => st z (by simp [hz])) σ2 H2 k q
  | bk => exact k
  | rt d => exact k
theorem w_wh {t : TF} {b : SF} {n : Nat} (h : wT (t σ H) fun x H1 => br x (wS (b σ H1) (again (fun σ2 H2 => wS (sWh t b n σ2 H2) R) R)) (R .nx σ H1)) : wS (sWh t b (n + 1) σ H) R := by
 obtain ⟨x, H1, e, q1, q2⟩ := h
 rw [sWh]
 dsimp only
 rw [e]
 simp only [Zb]
 cases x with
 | true =>
  rw [if_pos rfl]
  obtain ⟨y, σ2, H2, e2, q⟩ := q1 rfl
  rw [e2]
  cases y with
  | nx => exact q
  | ct => exact q
  | bk => exact ⟨_, _, _, rfl, q⟩
  | rt d => exact ⟨_, _, _, rfl, q⟩
 | false => rw [if_neg (by simp)]; exact ⟨_, _, _, rfl, q2 rfl⟩
theorem Znq {t : TF} {b : SF} (Inv : Nat -> SD -> HD -> Prop) (st : ∀ m σ H, Inv m σ H -> wT (t σ H) fun x H1 => br x (∃ m', m = m' + 1 ∧ wS (b σ H1) (again (Inv m') R)) (R .nx σ H1)) : ∀ (n m : Nat) (σ : SD) (H : HD), m < n -> Inv m σ H -> wS (sWh t b n σ H) R
 | 0, m, σ, H, h, i => by omega
 | n + 1, m, σ, H, h, i => by
  refine w_wh ?_
  obtain ⟨x, H1, e, q1, q2⟩ := st m σ H i
  refine ⟨x, H1, e, fun hx => ?_, q2⟩
  obtain ⟨m', rfl, y, σ2, H2, e2, q⟩ := q1 hx
  refine ⟨y, σ2, H2, e2, ?_⟩
  cases y with
  | nx => exact Znq Inv st n m' σ2 H2 (by omega) q
  | ct => exact Znq Inv st n m' σ2 H2 (by omega) q
  | bk => exact q
  | rt d => exact q
theorem Zoq {own : Zhn} {c0 : SD} {tt : TF} {te : EF} {Q : List D -> HD -> Prop} (h : Zct own H) (q : Q [] H) : wA (Zeo own c0 tt te [] H) Q := ⟨_, _, by rw [Zeo, if_pos h], q⟩
theorem Zkf {own : Zhn} {c0 : SD} {tt : TF} {te : EF} {x : D} {r : List D} {Q : List D -> HD -> Prop} (h : Zct own H)
  (q : wT (tt (some x :: c0) H) fun b H1 => br b (wE (te (some x :: c0) H1) fun e H2 => wA (Zeo own c0 tt te r H2) fun es H3 => Q (e :: es) H3) (wA (Zeo own c0 tt te r H1) Q)) : wA (Zeo own c0 tt te (x :: r) H) Q := by
 obtain ⟨b, H1, e1, q1, q2⟩ := q
 rw [Zeo, if_pos h, e1]
 simp only [Zb]
 cases b with
 | true =>
  obtain ⟨e, H2, e2, es, H3, e3, q⟩ := q1 rfl
  exact ⟨e :: es, H3, by rw [if_pos rfl, e2]; simp only [Zb]; rw [e3]; rfl, q⟩
 | false => rw [if_neg (by simp)]; exact q2 rfl
theorem w_yes {Q : Bool -> HD -> Prop} (q : Q true H) : wT (Zte σ H) Q := ⟨_, _, rfl, q⟩
theorem Zn7 {own : Zhn} {c0 : SD} {tt : TF} {te : EF} (Inv : List D -> List D -> List D -> HD -> Prop) (ho : ∀ d t o H, Inv d t o H -> Zct own H)
  (st : ∀ d x t o H, Inv d (x :: t) o H -> wT (tt (some x :: c0) H) fun b H1 => br b (wE (te (some x :: c0) H1) fun e H2 => Inv (d ++ [x]) t (o ++ [e]) H2) (Inv (d ++ [x]) t o H1))
  {Q : List D -> HD -> Prop} : ∀ (t d o : List D) (H : HD), Inv d t o H -> (∀ d o' H', Inv d [] (o ++ o') H' -> Q o' H') -> wA (Zeo own c0 tt te t H) Q
 | [], d, o, H, i, q => Zoq (ho _ _ _ _ i) (q d [] H (by rw [Xu]; exact i))
 | x :: t, d, o, H, i, q => by
  refine Zkf (ho _ _ _ _ i) ?_
  obtain ⟨b, H1, e1, q1, q2⟩ := st d x t o H i
  refine ⟨b, H1, e1, fun h => ?_, fun h => ?_⟩
  ·obtain ⟨e, H2, e2, k⟩ := q1 h
   refine ⟨e, H2, e2, ?_⟩
   refine Zn7 Inv ho st t _ _ H2 k fun d' o' H' i' => q d' (e :: o') H' ?_
   rw [Wcy] at i'; exact i'
  ·exact Zn7 Inv ho st t _ _ H1 (q2 h) fun d' o' H' i' => q d' o' H' i'
theorem Zb1 {own : Zhn} {c0 : SD} {tt : TF} (f : D -> Bool) (J : HD -> Prop) (ho : ∀ H, J H -> Zct own H) {Q : List D -> HD -> Prop} : ∀ (xs : List D) (st : ∀ x ∈ xs, ∀ H, J H -> wT (tt (some x :: c0) H) fun b H1 => b = f x ∧ J H1) (H : HD), J H -> (∀ H', J H' -> Q (xs.filter f) H') -> wA (Zeo own c0 tt (Zac 0) xs H) Q
 | [], st, H, j, q => Zoq (ho H j) (q H j)
 | x :: xs, st, H, j, q => by
  refine Zkf (ho H j) ?_
  obtain ⟨b, H1, e, rfl, j1⟩ := st x (by simp) H j
  refine ⟨_, H1, e, fun h => ?_, fun h => ?_⟩
  ·refine ⟨x, H1, rfl, ?_⟩
   refine Zb1 f J ho xs (fun y hy => st y (by simp [hy])) H1 j1 fun H' j' => ?_
   have := q H' j'
   rwa [Wdt h] at this
  ·refine Zb1 f J ho xs (fun y hy => st y (by simp [hy])) H1 j1 fun H' j' => ?_
   have := q H' j'
   rwa [Wdu (by rw [h]; simp)] at this
theorem Zj0 {own : Zhn} {c0 : SD} {te : EF} (g : D -> D) (J : HD -> Prop) (ho : ∀ H, J H -> Zct own H) {Q : List D -> HD -> Prop} : ∀ (xs : List D) (st : ∀ x ∈ xs, ∀ H, J H -> wE (te (some x :: c0) H) fun d H1 => d = g x ∧ J H1) (H : HD), J H -> (∀ H', J H' -> Q (xs.map g) H') -> wA (Zeo own c0 Zte te xs H) Q
 | [], st, H, j, q => Zoq (ho H j) (q H j)
 | x :: xs, st, H, j, q => by
  refine Zkf (ho H j) (w_yes (w_bt ?_))
  obtain ⟨b, H1, e, rfl, j1⟩ := st x (by simp) H j
  exact ⟨_, H1, e, Zj0 g J ho xs (fun y hy => st y (by simp [hy])) H1 j1 q⟩
theorem Zxr {own : Zhn} {c0 : SD} {tt : TF} {te : EF} (f : D -> Bool) (g : D -> D) (J : HD -> Prop) (ho : ∀ H, J H -> Zct own H) {Q : List D -> HD -> Prop} : ∀ (xs : List D) (st : ∀ x ∈ xs, ∀ H, J H -> wT (tt (some x :: c0) H) fun b H1 => b = f x ∧ J H1) (st2 : ∀ x ∈ xs, f x = true -> ∀ H, J H -> wE (te (some x :: c0) H) fun d H1 => d = g x ∧ J H1) (H : HD), J H -> (∀ H', J H' -> Q ((xs.filter f).map g) H') -> wA (Zeo own c0 tt te xs H) Q
 | [], st, st2, H, j, q => Zoq (ho H j) (q H j)
 | x :: xs, st, st2, H, j, q => by
  refine Zkf (ho H j) ?_
  obtain ⟨b, H1, e, rfl, j1⟩ := st x (by simp) H j
  refine ⟨_, H1, e, fun h => ?_, fun h => ?_⟩
  ·obtain ⟨d, H2, e2, rfl, j2⟩ := st2 x (by simp) h H1 j1
   refine ⟨_, H2, e2, ?_⟩
   refine Zxr f g J ho xs (fun y hy => st y (by simp [hy])) (fun y hy => st2 y (by simp [hy])) H2 j2 fun H' j' => ?_
   have := q H' j'
   rwa [Wdt h] at this
  ·refine Zxr f g J ho xs (fun y hy => st y (by simp [hy])) (fun y hy => st2 y (by simp [hy])) H1 j1 fun H' j' => ?_
   have := q H' j'
   rwa [Wdu (by rw [h]; simp)] at this
end
structure Fm (S : List Nat) (H H' : HD) : Prop where
 old : ∀ (m : Nat) (o : DO), m ∉ S -> H[m]? = some o -> H'[m]? = some o ∨ ∃ kvs, o = .dic kvs false ∧ H'[m]? = some (.dic kvs true)
 len : H.length ≤ H'.length
theorem Fm.refl {S : List Nat} {H : HD} : Fm S H H := ⟨fun _ _ _ h => .inl h, Xc _⟩
theorem Fm.trans {S : List Nat} {H H1 H2 : HD} (a : Fm S H H1) (b : Fm S H1 H2) : Fm S H H2 := by
 refine ⟨fun m o hm h => ?_, Xp a.len b.len⟩
 rcases a.old m o hm h with h1 | ⟨kvs, rfl, h1⟩
 ·exact b.old m o hm h1
 ·rcases b.old m _ hm h1 with h2 | ⟨k2, e, _⟩
  ·exact .inr ⟨kvs, rfl, h2⟩
  ·cases e
theorem Fm.sub {S T : List Nat} {H H' : HD} (a : Fm S H H') (h : ∀ m ∈ S, m ∈ T) : Fm T H H' := ⟨fun m o hm q => a.old m o (fun z => hm (h m z)) q, a.len⟩
theorem Fm.app {S : List Nat} {H : HD} (L : HD) : Fm S H (H ++ L) := ⟨fun m o _ q => .inl (by
 have : m < H.length := (Xd.mp q).1
 rw [Xx this]; exact q), by simp⟩
theorem Fm.set {S : List Nat} {H : HD} {p : Nat} {o : DO} (h : p ∈ S) : Fm S H (H.set p o) := ⟨fun m u hm q => .inl (by rw [Wam (fun z => hm (by rw [← z]; exact h))]; exact q), by simp⟩
theorem Fm.new {S T : List Nat} {H H1 H' : HD} (a : Fm S H H1) (b : Fm T H1 H') (h : ∀ m ∈ T, m ∉ S -> H.length ≤ m) : Fm S H H' := by
 refine ⟨fun m o hm q => ?_, Xp a.len b.len⟩
 have lt : m < H.length := (Xd.mp q).1
 have ht : m ∉ T := fun z => by have := h m z hm; omega
 rcases a.old m o hm q with h1 | ⟨kvs, rfl, h1⟩
 ·exact b.old m o ht h1
 ·rcases b.old m _ ht h1 with h2 | ⟨k2, e, _⟩
  ·exact .inr ⟨kvs, rfl, h2⟩
  ·cases e
theorem Fm.lst {S : List Nat} {H H' : HD} (x : Fm S H H') {m : Nat} {xs : List D} (hm : m ∉ S) (h : H[m]? = some (.lst xs)) : H'[m]? = some (.lst xs) := by
 rcases x.old m _ hm h with h1 | ⟨k2, e, _⟩
 ·exact h1
 ·cases e
theorem isl {H : HD} {n : Nat} {xs : List D} (h : H[n]? = some (.lst xs)) : Znp (.ref n) H = true := by simp [Znp, h]
theorem Ztg {H : HD} {n : Nat} {o : DO} (h : H[n]? = some o) : Zct [(n, o)] H := by intro p hp; simp at hp; subst hp; exact h
theorem tyR {H : HD} {n : Nat} {xs : List D} (h : H[n]? = some (.lst xs)) : tyD (.ref n) H = some "list" := by simp [tyD, h]
theorem Zfz {H : HD} : Zct [] H := by intro p hp; cases hp
theorem last {H : HD} {o : DO} : (H ++ [o])[H.length]? = some o := by simp
theorem appL {H : HD} {n : Nat} {o u : DO} (h : H[n]? = some o) : (H ++ [u])[n]? = some o := by
 rw [Xx (Xd.mp h).1]; exact h
theorem Zxj {H : HD} {n m : Nat} {o u : DO} (hn : n ≠ m) (h : H[m]? = some o) : (H.set n u)[m]? = some o := by rw [Wam hn]; exact h
theorem Zpg {H : HD} {n : Nat} {o u : DO} (h : H[n]? = some u) : (H.set n o)[n]? = some o := Wbw (Xd.mp h).1
structure Fine (d : D) (x : Vs) (h : Nat) : Prop where
 to : ∀ H n, toP H n d = some x
 lay : x.canLay0 = true
 dep : x.depth ≤ h
theorem Fine.int (i : Int) : Fine (.int i) (.int i) 0 := ⟨fun H n => Zgo H n i, rfl, Xc _⟩
theorem Fine.bl (b : Bool) : Fine (.bl b) (.bool b) 0 := ⟨fun H n => Zv7 H n b, rfl, Xc _⟩
theorem Fine.str {s : Str} (h : Tba s = true) : Fine (.str s) (.str s) 0 := ⟨fun H n => Zj7 H n s, h, Xc _⟩
structure Fines (ds : List D) (xs : List Vs) (h : Nat) : Prop where
 to : ∀ H n, Zj1 H n ds = some xs
 lay : Ut xs = true
 dep : Tau xs ≤ h
 len : xs.length = ds.length
theorem Fines.nil {h : Nat} : Fines [] [] h := ⟨fun H n => by rw [Zj1], rfl, Wak _, rfl⟩
theorem Fines.cons {d : D} {x : Vs} {ds : List D} {xs : List Vs} {h : Nat} (a : Fine d x h) (b : Fines ds xs h) : Fines (d :: ds) (x :: xs) h :=
 ⟨fun H n => by rw [Zj1, a.to, b.to]; rfl, by simp [Ut, a.lay, b.lay], by simp only [Tau]; exact Nat.max_le.mpr ⟨a.dep, b.dep⟩, by simp [b.len]⟩
theorem Fines.of {h : Nat} : ∀ ds : List D, (∀ d ∈ ds, ∃ x, Fine d x h) -> ∃ xs, Fines ds xs h
 | [], _ => ⟨[], .nil⟩
 | d :: ds, f => by
  obtain ⟨x, a⟩ := f d (by simp)
  obtain ⟨xs, b⟩ := Fines.of ds fun e he => f e (by simp [he])
  exact ⟨x :: xs, .cons a b⟩
theorem Fine.tup {ds : List D} {xs : List Vs} {h : Nat} (f : Fines ds xs h) : Fine (.tup ds) (.tuple xs) (h + 1) :=
 ⟨fun H n => by cases n <;> rw [toP, f.to] <;> rfl, f.lay, Wbn f.dep⟩
theorem Fine.dat {d : D} {x : Vs} {h : Nat} (f : Fine d x h) (l : h ≤ 30) (H : HD) : DL.dat d H = some x := by
 unfold DL.dat
 rw [f.to]
 have : x.depth ≤ 30 := Xp f.dep l
 simp [okP, f.lay, this]
theorem Fines.dat {ds : List D} {xs : List Vs} {h : Nat} (f : Fines ds xs h) (l : h < 30) {H : HD} {p : Nat} (g : H[p]? = some (.lst ds)) : DL.dat (.ref p) H = some (.list xs) := by
 unfold DL.dat
 rw [toP]
 simp only [g]
 rw [f.to]
 have : (Tbt xs).depth ≤ 30 := Xp (Wbn f.dep) l
 have h2 : (Tbt xs).canLay0 = true := f.lay
 simp [okP, h2, this]
mutual
theorem Zhy : ∀ x : Vs, x.canLay0 = true -> Ua x x = true
 | .none, _ => by simp [Ua]
 | .bool _, _ => by simp [Ua]
 | .int _, _ => by simp [Ua]
 | .str _, _ => by simp [Ua]
 | .list xs, h => by rw [Ua]; exact Zfv xs h
 | .tuple xs, h => by rw [Ua]; exact Zfv xs h
 | .dict _, h => by cases h
theorem Zfv : ∀ xs : List Vs, Ut xs = true -> Tab xs xs = true
 | [], _ => by rw [Tab]
 | x :: xs, h => by
  simp only [Ut, Xv] at h
  rw [Tab, Zhy x h.1, Zfv xs h.2]; rfl
end
theorem Zg2 {a b : D} {x y : Vs} {H : HD} (h1 : dat a H = some x) (h2 : dat b H = some y) : eqD a b H = some (.bl (Ua x y), H) := by
 unfold eqD
 cases e : Zti a b with
 | none => rw [h1, h2]; rfl
 | some p =>
  obtain ⟨s, t⟩ := p
  unfold Zti at e
  split at e
  ·cases e
   unfold dat at h1 h2
   rw [Zj7] at h1 h2
   simp only [Zb] at h1 h2
   split at h1
   ·split at h2
    ·cases h1; cases h2; simp [Ua]
    ·cases h2
   ·cases h1
  ·cases e
theorem Zgp {a b : D} {x y : Vs} {H : HD} (h1 : dat a H = some x) (h2 : dat b H = some y) : neD a b H = some (.bl (!Ua x y), H) := by
 unfold neD
 cases e : Zti a b with
 | none => rw [h1, h2]; rfl
 | some p =>
  obtain ⟨s, t⟩ := p
  unfold Zti at e
  split at e
  ·cases e
   unfold dat at h1 h2
   rw [Zj7] at h1 h2
   simp only [Zb] at h1 h2
   split at h1
   ·split at h2
    ·cases h1; cases h2; simp [Ua]; rfl
    ·cases h2
   ·cases h1
  ·cases e
variable {H : HD} {Q : D -> HD -> Prop}
theorem Yax {a b : D} {x y : Vs} {h k : Nat} (f : Fine a x h) (g : Fine b y k) (hh : h ≤ 30) (hk : k ≤ 30) (q : Q (.bl (Ua x y)) H) : wE (eqD a b H) Q := ⟨_, _, Zg2 (f.dat hh H) (g.dat hk H), q⟩
theorem Zxg {a b : D} {x y : Vs} {h k : Nat} (f : Fine a x h) (g : Fine b y k) (hh : h ≤ 30) (hk : k ≤ 30) (q : Q (.bl (!Ua x y)) H) : wE (neD a b H) Q := ⟨_, _, Zgp (f.dat hh H) (g.dat hk H), q⟩
theorem Zx4 {xs : List D} {ys : List Vs} {h : Nat} (f : Fines xs ys h) : Ua (.tuple ys) (.tuple []) = xs.isEmpty := by
 have := f.len
 cases ys with
 | nil => cases xs with
  | nil => rfl
  | cons _ _ => simp at this
 | cons p ps => cases xs with
  | nil => simp at this
  | cons _ _ => simp [Ua, Tab]
theorem Zzf {xs : List D} {ys : List Vs} {h : Nat} (f : Fines xs ys h) (hh : h < 30) (q : Q (.bl xs.isEmpty) H) : wE (eqD (.tup xs) (.tup []) H) Q :=
 Yax (Fine.tup f) (Fine.tup (Fines.nil (h := 0))) (by omega) (by omega) (by rw [Zx4 f]; exact q)
theorem w_niL {a : D} {x : Vs} {h k p : Nat} {ds : List D} {xs : List Vs} (f : Fine a x h) (g : Fines ds xs k) (hh : h ≤ 30) (hk : k < 30) (hp : H[p]? = some (.lst ds)) (q : Q (.bl (!xs.any fun z => Ua z x)) H) : wE (niD a (.ref p) H) Q :=
 ⟨_, _, by unfold niD; rw [f.dat hh, Zb, g.dat hk hp]; rfl, q⟩
theorem Zxq {a : D} {x : Vs} {h k p : Nat} {ds : List D} {xs : List Vs} (f : Fine a x h) (g : Fines ds xs k) (hh : h ≤ 30) (hk : k < 30) (hp : H[p]? = some (.lst ds)) (q : Q (.bl (xs.any fun z => Ua z x)) H) : wE (inD a (.ref p) H) Q :=
 ⟨_, _, by unfold inD; rw [f.dat hh, Zb, g.dat hk hp]; rfl, q⟩
theorem w_niT {a : D} {x : Vs} {h k : Nat} {ds : List D} {xs : List Vs} (f : Fine a x h) (g : Fines ds xs k) (hh : h ≤ 30) (hk : k < 30) (q : Q (.bl (!xs.any fun z => Ua z x)) H) : wE (niD a (.tup ds) H) Q :=
 ⟨_, _, by unfold niD; rw [f.dat hh, Zb, (Fine.tup g).dat hk]; rfl, q⟩
theorem w_inT {a : D} {x : Vs} {h k : Nat} {ds : List D} {xs : List Vs} (f : Fine a x h) (g : Fines ds xs k) (hh : h ≤ 30) (hk : k < 30) (q : Q (.bl (xs.any fun z => Ua z x)) H) : wE (inD a (.tup ds) H) Q :=
 ⟨_, _, by unfold inD; rw [f.dat hh, Zb, (Fine.tup g).dat hk]; rfl, q⟩
theorem w_neI {i j : Int} (q : Q (.bl (!(i == j))) H) : wE (neD (.int i) (.int j) H) Q := Zxg (.int i) (.int j) (by omega) (by omega) (by simpa [Ua] using q)
def wX (n : Option (FD × SD × HD)) (y : Option (Int × HD)) (R : Int -> HD -> Prop) : Prop := n = none ∧ ∃ i H, y = some (i, H) ∧ R i H
section
variable {σ : SD} {H : HD} {R : Int -> HD -> Prop}
theorem Zwh {f g : SF} {b : YFs} (h : wS (f σ H) (Ztd (fun σ1 H1 => wX (g σ1 H1) (b σ1 H1) R) fun _ _ _ => False)) : wX (Zaf f g σ H) (Zw5 f b σ H) R := by
 obtain ⟨x, σ1, H1, e, k⟩ := h
 unfold Zaf Zw5
 rw [e]
 simp only [Zb]
 cases x with
 | nx => exact k
 | bk => exact k.elim
 | ct => exact k.elim
 | rt d => exact k.elim
theorem Zt1 {f g : SF} {σ : SD} {H : HD} (e : f σ H = none) : Zaf f g σ H = none := by unfold Zaf; rw [e]; rfl
theorem Zvy {f g : SF} {a : YFs} (h : wX (f σ H) (a σ H) R) : wX (Zaf f g σ H) (a σ H) R := ⟨Zt1 h.1, h.2⟩
theorem wx_if {t : TF} {f g : SF} {a b : YFs} (h : wT (t σ H) fun c H1 => br c (wX (f σ H1) (a σ H1) R) (wX (g σ H1) (b σ H1) R)) : wX (sIf t f g σ H) (yIf t a b σ H) R := by
 obtain ⟨c, H1, e, q1, q2⟩ := h
 rw [Ya8 e]
 unfold yIf
 rw [e]
 simp only [Zb]
 cases c with
 | true => rw [if_pos rfl, if_pos rfl]; exact q1 rfl
 | false => rw [if_neg (by simp), if_neg (by simp)]; exact q2 rfl
theorem Zu0 {g : SF} {fe : EF} (h : wE (fe σ H) fun d H1 => ∃ i, d = .int i ∧ i.natAbs < 1000000 ∧ R i H1) : wX (Zaf Zz6 g σ H) (Zjh fe σ H) R := by
 obtain ⟨d, H1, e, i, rfl, hi, q⟩ := h
 refine ⟨rfl, i, H1, ?_, q⟩
 unfold Zjh
 rw [e]
 exact if_pos hi
theorem Ycj {it : ItF} {g : GF} {b : SF} {yb : YFs} (h : wI (it σ H) fun xs own H1 => wX (Zi4 own g b xs σ H1) (Zf3 own g b yb xs σ H1) R) : wX (Zgn it g b σ H) (Ybh it g b yb σ H) R := by
 obtain ⟨xs, own, H1, e, q⟩ := h
 unfold Zgn Ybh; rw [e]; exact q
theorem Zxm {own : Zhn} {g : GF} {b : SF} {yb : YFs} {x : D} {t : List D} (h : Zct own H) (q : wG (g x σ H) fun σ1 H1 => wS (b σ1 H1) (again (fun σ2 H2 => wX (Zi4 own g b t σ2 H2) (Zf3 own g b yb t σ2 H2) R) fun _ _ _ => False)) :
  wX (Zi4 own g b (x :: t) σ H) (Zf3 own g b yb (x :: t) σ H) R := by
 obtain ⟨σ1, H1, e1, y, σ2, H2, e2, q⟩ := q
 rw [Zi4, Zf3, if_pos h, if_pos h, e1]
 simp only [Zb]
 rw [e2]
 cases y with
 | nx => exact q
 | ct => exact q
 | bk => exact q.elim
 | rt d => exact q.elim
theorem Zyl {own : Zhn} {g : GF} {b : SF} {yb : YFs} {x : D} {t : List D} (h : Zct own H) (q : wG (g x σ H) fun σ1 H1 => wX (b σ1 H1) (yb σ1 H1) R) :
  wX (Zi4 own g b (x :: t) σ H) (Zf3 own g b yb (x :: t) σ H) R := by
 obtain ⟨σ1, H1, e1, e2, i, H2, e3, q⟩ := q
 rw [Zi4, Zf3, if_pos h, if_pos h, e1]
 simp only [Zb]
 rw [e2]
 exact ⟨rfl, i, H2, e3, q⟩
def wXD (n : Option (D × HD)) (y : Option (Int × HD)) (R : Int -> HD -> Prop) : Prop := n = none ∧ ∃ i H, y = some (i, H) ∧ R i H
theorem Zvq {n N : Nat} {b : SF} {yb : YFs} {ds : List D} (hl : ds.length = n) (h : wX (b (ds.map some ++ Xg (N - ds.length) none) H) (yb (ds.map some ++ Xg (N - ds.length) none) H) R) : wXD (Za0 n N b ds H) (Zt8 n N yb ds H) R := by
 obtain ⟨e, q⟩ := h
 unfold Za0 Zt8
 rw [if_pos hl, if_pos hl, e]
 exact ⟨rfl, q⟩
theorem Zvv {iE : Nat} {b : SF} {y : YFs} {su : Int -> SF} {Q : FD -> SD -> HD -> Prop} (h : wX (b σ H) (y σ H) fun i H1 => wS (su i (σ.set iE none) H1) (Ztd (fun σ2 H2 => Q .nx (σ2.set iE none) H2) fun _ _ _ => False)) : wS (Znu iE b y su σ H) Q := by
 obtain ⟨e, i, H1, e1, x, σ2, H2, e2, k⟩ := h
 unfold Znu
 rw [e]
 simp only
 rw [e1]
 simp only [Zb]
 rw [e2]
 cases x with
 | nx => exact ⟨_, _, _, rfl, k⟩
 | bk => exact k.elim
 | ct => exact k.elim
 | rt d => exact k.elim
theorem Zn0 {n : Nat} {F : FF} {Y : YFF} {fa : AF} {g : SF} (h : wA (fa σ H) fun ds H1 => ds.length = n ∧ wXD (F ds H1) (Y ds H1) R) : wX (Zaf (Zdf (Zam n F fa)) g σ H) (Zfe n Y fa σ H) R := by
 obtain ⟨ds, H1, e, hl, e1, q⟩ := h
 refine ⟨Zt1 ?_, ?_⟩
 ·unfold Zdf Zam; rw [e]; simp only [Zb]; rw [if_pos hl, e1]; rfl
 ·unfold Zfe; rw [e]; simp only [Zb]; rw [if_pos hl]; exact q
theorem Zue {n k : Nat} {F : FF} {Y : YFF} {fa : AF} {g : SF} (h : wA (fa σ H) fun ds H1 => ds.length = n ∧ wXD (F ds H1) (Y ds H1) R) : wX (Zaf (Zax k (Zam n F fa)) g σ H) (Zfe n Y fa σ H) R := by
 obtain ⟨ds, H1, e, hl, e1, q⟩ := h
 refine ⟨Zt1 ?_, ?_⟩
 ·unfold Zax Zam; rw [e]; simp only [Zb]; rw [if_pos hl, e1]; rfl
 ·unfold Zfe; rw [e]; simp only [Zb]; rw [if_pos hl]; exact q
end
end WP
set_option maxHeartbeats 8000000
namespace K08
open PySem L2 DL
nonrec def Zdw : SF :=
 (Zaf (Zaw (eAn (eCB Zhp (Zaa (Zac 0) (Zaa (eC (.ty "int")) Zae))) (eNo (eCB Zhp (Zaa (Zac 0) (Zaa (eC (.ty "bool")) Zae))))))
 Zaj)
nonrec def Zd8 : FF := Za0 1 1 Zdw
nonrec def Zec : SF :=
 (Zaf (sIf (tNo (Ze4 (eCB Zhp (Zaa (Zac 1) (Zaa (eC (.ty "tuple")) Zae))))) (Zaf (Zaw (eC (.bl false)))
 Zaj) Zaj)
 (Zaf (Zax 2 (eC (.int 0)))
 (Zaf (Zgn (iSq (Zac 1)) (gNm 3) (Zaf (sIf (Zgl (tNo (Ze4 (Zam 1 Zd8 (Zaa (Zac 3) Zae)))) (Zgl (tOf (eOp leD (eCB Zpu (Zaa (Zac 3) Zae)) (Zac 2))) (tOf (eOp gtD (eCB Zpu (Zaa (Zac 3) Zae)) (Zac 0))))) (Zaf (Zaw (eC (.bl false)))
 Zaj) Zaj)
 (Zaf (Zax 2 (eCB Zpu (Zaa (Zac 3) Zae)))
 Zaj)))
 (Zaf (Zaw (eC (.bl true)))
 Zaj))))
nonrec def Zhx : FF := Za0 2 4 Zec
nonrec def Zbs : SF :=
 (Zaf (Zaw (eAn (Zam 1 Zd8 (Zaa (Zac 0) Zae)) (eCh leD ltD (eC (.int 0)) (Zac 0) (Zac 1))))
 Zaj)
nonrec def Zbu : FF := Za0 2 2 Zbs
nonrec def Za3 : SF :=
 (Zaf (Zaw (eAn (Zam 1 Zd8 (Zaa (Zac 2) Zae)) (eAn (eCh leD leD (eC (.int 1)) (Zac 2) (eCB Zb8 (Zaa (Zac 0) Zae))) (eOp neD (eOp ixD (Zac 0) (eOp Zi5 (Zac 2) (eC (.int 1)))) (Zac 1)))))
 Zaj)
nonrec def Zb3 : FF := Za0 3 3 Za3
nonrec def Zd6 : SF :=
 (Zaf (Zax 3 (eCB Zb8 (Zaa (Zac 2) Zae)))
 (Zaf (sWh (tAn (tOf (eOp gtD (Zac 3) (eC (.int 0)))) (tOf (eOp eqD (eOp ixD (Zac 0) (eOp Zi5 (eCB Zpu (Zaa (eOp ixD (Zac 2) (eOp Zi5 (Zac 3) (eC (.int 1)))) Zae)) (eC (.int 1)))) (Zac 1)))) (Zaf (sAug (fun i j => i - j) 3 (eC (.int 1)))
 Zaj) 20)
 (Zaf (Zaw (eSl (Zac 2) Zb0 (Zbh (Zac 3))))
 Zaj)))
nonrec def Zg0 : FF := Za0 3 4 Zd6
nonrec def Ze0 : SF :=
 (Zaf (Zaw (eCB Zdc (Zaa (eLC (iSq (Zac 0)) [1] (tOf (eOp neD (Zac 0) (Zac 1))) (Zac 0)) Zae)))
 Zaj)
nonrec def Zgf : FF := Za0 2 2 Ze0
nonrec def Zla : SF :=
 (Zaf (Zax 2 (eCB Zho (Zaa (Zac 0) Zae)))
 (Zaf (Zgn (iSq (Zac 1)) (gNm 3) (Zaf (sIf (tOf (eOp inD (eUn Zme (Zac 3)) (Zac 0))) (Zaf (Zaw (eC .non))
 Zaj) Zaj)
 (Zaf (sIf (tOf (eOp niD (Zac 3) (Zac 0))) (Zaf (Zdf (eLM Zbd (Zac 2) (Zaa (Zac 3) Zae)))
 Zaj) Zaj)
 Zaj)))
 (Zaf (Zaw (eCB Zdc (Zaa (eCB Zjf (Zaa (Zac 2) Zae)) Zae)))
 Zaj)))
nonrec def Zq8 : FF := Za0 2 4 Zla
nonrec def Zge : SF :=
 (Zaf (sIf (Zgl (tOf (eOp niD (Zac 2) (Zac 0))) (tOf (eOp niD (eUn Zme (Zac 2)) (Zac 1)))) (Zaf (Zaw (eC .non))
 Zaj) Zaj)
 (Zaf (Zaw (Zam 2 Zq8 (Zaa (Zam 2 Zgf (Zaa (Zac 0) (Zaa (Zac 2) Zae))) (Zaa (Zam 2 Zgf (Zaa (Zac 1) (Zaa (eUn Zme (Zac 2)) Zae))) Zae))))
 Zaj))
nonrec def Zkd : FF := Za0 3 3 Zge
nonrec def Zbt : SF :=
 (Zaf (sIf (Zgl (tOf (eOp neD (eCB Zb8 (Zaa (Zac 3) Zae)) (eC (.int 2)))) (tNo (Ze4 (Zam 2 Zbu (Zaa (eOp ixD (Zac 3) (eC (.int 1))) (Zaa (eCB Zb8 (Zaa (Zac 2) Zae)) Zae)))))) (Zaf (Zaw (eC .non))
 Zaj) Zaj)
 (Zaf (Zaw (Zam 3 Zg0 (Zaa (Zac 0) (Zaa (Zac 1) (Zaa (eOp ixD (Zac 2) (eOp ixD (Zac 3) (eC (.int 1)))) Zae)))))
 Zaj))
nonrec def Zdr : FF := Za0 4 4 Zbt
nonrec def Zbg : SF :=
 (Zaf (sIf (Zgl (tOf (eOp neD (eCB Zb8 (Zaa (Zac 3) Zae)) (eC (.int 4)))) (Zgl (tNo (Ze4 (Zam 2 Zbu (Zaa (eOp ixD (Zac 3) (eC (.int 1))) (Zaa (eCB Zb8 (Zaa (Zac 2) Zae)) Zae))))) (tNo (Ze4 (Zam 2 Zbu (Zaa (eOp ixD (Zac 3) (eC (.int 2))) (Zaa (eCB Zb8 (Zaa (Zac 2) Zae)) Zae))))))) (Zaf (Zaw (eC .non))
 Zaj) Zaj)
 (Zaf (sIf (tNo (Ze4 (Zam 3 Zb3 (Zaa (Zac 0) (Zaa (Zac 1) (Zaa (eOp ixD (Zac 3) (eC (.int 3))) Zae)))))) (Zaf (Zaw (eC .non))
 Zaj) Zaj)
 (Zaf (Zaw (Zam 3 Zkd (Zaa (eOp ixD (Zac 2) (eOp ixD (Zac 3) (eC (.int 1)))) (Zaa (eOp ixD (Zac 2) (eOp ixD (Zac 3) (eC (.int 2)))) (Zaa (eOp ixD (Zac 3) (eC (.int 3))) Zae)))))
 Zaj)))
nonrec def Zcq : FF := Za0 4 4 Zbg
nonrec def Zav : SF :=
 (Zaf (Zaw (eCB Yb2 (Zaa (eLC (iSq (Zac 0)) [1] Zte (eOp inD (Zac 0) (Zac 1))) Zae)))
 Zaj)
nonrec def Zbq : FF := Za0 2 2 Zav
nonrec def Zb2 : SF :=
 (Zaf (sIf (Zgl (tOf (eOp neD (eCB Zb8 (Zaa (Zac 1) Zae)) (eC (.int 2)))) (Zgl (tOf (eOp neD (eOp ixD (Zac 1) (eC (.int 0))) (eC (.str "term")))) (tNo (Ze4 (Zam 2 Zhx (Zaa (eCB Zb8 (Zaa (eOp ixD (Zac 0) (eC (.int 0))) Zae)) (Zaa (eOp ixD (Zac 1) (eC (.int 1))) Zae))))))) (Zaf (Zaw (eC .non))
 Zaj) Zaj)
 (Zaf (Zgn (iSq (eOp ixD (Zac 0) (eC (.int 1)))) (gNm 2) (Zaf (sIf (tNo (Ze4 (Zam 2 Zbq (Zaa (Zac 2) (Zaa (eOp ixD (Zac 1) (eC (.int 1))) Zae))))) (Zaf (Zaw (eC .non))
 Zaj) Zaj)
 Zaj))
 (Zaf (Zaw (eOp ixD (Zac 1) (eC (.int 1))))
 Zaj)))
nonrec def Zed : FF := Za0 2 3 Zb2
nonrec def Zez : SF :=
 (Zaf (sIf (Zgl (tNo (Ze4 (eCB Zhp (Zaa (Zac 4) (Zaa (eC (.ty "tuple")) Zae))))) (tOf (eOp eqD (eCB Zb8 (Zaa (Zac 4) Zae)) (eC (.int 0))))) (Zaf (Zaw (eC .non))
 Zaj) Zaj)
 (Zaf (sIf (tOf (eOp eqD (eOp ixD (Zac 4) (eC (.int 0))) (eC (.str "less")))) (Zaf (Zaw (Zam 4 Zdr (Zaa (eOp ixD (Zac 0) (eC (.int 0))) (Zaa (Zac 1) (Zaa (Zac 3) (Zaa (Zac 4) Zae))))))
 Zaj) Zaj)
 (Zaf (sIf (tOf (eOp eqD (eOp ixD (Zac 4) (eC (.int 0))) (eC (.str "joined")))) (Zaf (Zaw (Zam 4 Zcq (Zaa (eOp ixD (Zac 0) (eC (.int 0))) (Zaa (Zac 1) (Zaa (Zac 3) (Zaa (Zac 4) Zae))))))
 Zaj) Zaj)
 (Zaf (Zaw (Zlk 2 2 "claims_term" Zed (Zaa (Zac 0) (Zaa (Zac 4) Zae))))
 Zaj))))
nonrec def Zc4 : FF := Za0 5 5 Zez
nonrec def Zcd : SF :=
 (Zaf (Zax 4 (Zcb Zae))
 (Zaf (Zgn (Zk1 (Zaa (Zac 3) Zae)) (gTp 2 (gCn (gNm 5) (gCn (gNm 6) gNl))) (Zaf (Zax 7 (Zam 5 Zc4 (Zaa (Zac 0) (Zaa (Zac 1) (Zaa (Zac 2) (Zaa (Zac 4) (Zaa (Zac 6) Zae)))))))
 (Zaf (sIf (tOf (eOp isD (Zac 7) (eC .non))) (Zaf Zz6
 Zaj) Zaj)
 (Zaf (Zdf (eLM Zbd (Zac 4) (Zaa (Zac 7) Zae)))
 Zaj))))
 (Zaf (Zaw (Zac 4))
 Zaj)))
nonrec def Zd2 : FF := Za0 4 8 Zcd
nonrec def Zc8 : YFs :=
 (Zw5 (Zax 4 (Zcb Zae))
 (Ybh (Zk1 (Zaa (Zac 3) Zae)) (gTp 2 (gCn (gNm 5) (gCn (gNm 6) gNl))) (Zaf (Zax 7 (Zam 5 Zc4 (Zaa (Zac 0) (Zaa (Zac 1) (Zaa (Zac 2) (Zaa (Zac 4) (Zaa (Zac 6) Zae)))))))
 (Zaf (sIf (tOf (eOp isD (Zac 7) (eC .non))) (Zaf Zz6
 Zaj) Zaj)
 (Zaf (Zdf (eLM Zbd (Zac 4) (Zaa (Zac 7) Zae)))
 Zaj))) (Zw5 (Zax 7 (Zam 5 Zc4 (Zaa (Zac 0) (Zaa (Zac 1) (Zaa (Zac 2) (Zaa (Zac 4) (Zaa (Zac 6) Zae)))))))
 (yIf (tOf (eOp isD (Zac 7) (eC .non))) (Zjh (Zac 5)) yNo))))
nonrec def Zfb : YFF := Zt8 4 8 Zc8
nonrec def Zd3 : SF :=
 (Zaf (sIf (tNo (Ze4 (eCB Zhp (Zaa (Zac 3) (Zaa (eC (.ty "list")) Zae))))) (Zaf (Zaw (eC (.bl false)))
 Zaj) Zaj)
 (Zaf (Znm (Zaf (Zax 4 (Zam 4 Zd2 (Zaa (Zac 0) (Zaa (Zac 1) (Zaa (Zac 2) (Zaa (Zac 3) Zae))))))
 Zaj) (Zfe 4 Zfb (Zaa (Zac 0) (Zaa (Zac 1) (Zaa (Zac 2) (Zaa (Zac 3) Zae))))) (Zaf (Zaw (eC (.bl false)))
 Zaj))
 (Zaf (Zaw (eAn (eOp gtD (eCB Zb8 (Zaa (Zac 4) Zae)) (eC (.int 0))) (eOp eqD (eOp ixD (Zac 4) (eUn Zme (eC (.int 1)))) (Zem Zae))))
 Zaj)))
nonrec def Zjp : FF := Za0 4 5 Zd3
nonrec def Zcf : SF :=
 (Zaf (Zaw (Zam 4 Zd2 (Zaa (Zac 0) (Zaa (eC (.str "some")) (Zaa (eC (.ty "claims_term")) (Zaa (Zac 1) Zae))))))
 Zaj)
nonrec def Zbz : FF := Za0 2 2 Zcf
nonrec def Zc0 : YFs :=
 (Zfe 4 Zfb (Zaa (Zac 0) (Zaa (eC (.str "some")) (Zaa (eC (.ty "claims_term")) (Zaa (Zac 1) Zae)))))
nonrec def Ze3 : YFF := Zt8 2 2 Zc0
nonrec def Zbo : SF :=
 (Zaf (Zaw (Zam 4 Zjp (Zaa (Zac 0) (Zaa (eC (.str "some")) (Zaa (eC (.ty "claims_term")) (Zaa (Zac 1) Zae))))))
 Zaj)
nonrec def Zc6 : FF := Za0 2 2 Zbo
nonrec def Zes : SF :=
 (Zaf (Zax 2 (eOp ixD (Zcb (Zaa (eC (.int 2147483647)) (Zaa (eC (.int 2147483629)) (Zaa (eC (.int 2147483587)) (Zaa (eC (.int 2147483579)) (Zaa (eC (.int 2147483563)) (Zaa (eC (.int 2147483549)) (Zaa (eC (.int 2147483543)) Zae)))))))) (eOp Zb4 (Zac 1) (eC (.int 7)))))
 (Zaf (Zax 3 (eOp Zb4 (eOp Zmi (eOp Zbb (eOp Zb4 (Zac 0) (eC (.int 998244353))) (eOp Zmi (eC (.int 104729)) (eOp Zbb (Zac 1) (eC (.int 1))))) (eOp Zbb (eOp Zbb (eOp Zmi (Zac 1) (Zac 1)) (eOp Zmi (eC (.int 7)) (Zac 1))) (eC (.int 13)))) (Zac 2)))
 (Zaf (Zax 3 (eOp Zb4 (eOp Zwj (Zac 3) (eC (.int 5))) (eC (.int 1000000007))))
 (Zaf (Zax 3 (eOp Zb4 (eOp Zbb (eOp Zbb (eOp Zmi (Zac 3) (eC (.int 48271))) (eOp Zmi (eC (.int 31)) (Zac 1))) (eC (.int 5))) (Zac 2)))
 (Zaf (Zaw (eOp Zkw (eOp Zb4 (eOp Zwj (Zac 3) (eC (.int 3))) (eC (.int 998244353))) (eC (.int 8))))
 Zaj)))))
nonrec def Zh7 : FF := Za0 2 4 Zes
nonrec def Zcn : SF :=
 (Zaf (Zax 2 (Zcb Zae))
 (Zaf (Zax 3 (eCB Zpu (Zaa (Zac 0) Zae)))
 (Zaf (Zax 4 (eOp geD (Zac 3) (eOp Zwj (eC (.int 10)) (eC (.int 18)))))
 (Zaf (Zgn (iR1 (Zaa (Zac 1) Zae)) (gNm 5) (Zaf (sIf (tAn (Ze4 (Zac 4)) (tOf (eOp gtD (Zac 3) (eC (.int 0))))) (Zaf (Zdf (eLM Zbd (Zac 2) (Zaa (eOp Zb4 (Zac 3) (eC (.int 10007))) Zae)))
 (Zaf (Zax 3 (eOp Zkw (Zac 3) (eC (.int 10007))))
 Zaj)) (Zaf (Zdf (eLM Zbd (Zac 2) (Zaa (Zam 2 Zh7 (Zaa (Zac 0) (Zaa (Zac 5) Zae))) Zae)))
 Zaj))
 Zaj))
 (Zaf (Zaw (Zac 2))
 Zaj)))))
nonrec def Zbk : FF := Za0 2 6 Zcn
nonrec def Zf9 : SF :=
 (Zaf (sIf (tOf (eOp ltD (Zac 1) (eCB Zb8 (Zaa (Zac 0) Zae)))) (Zaf (Zaw (eOp ixD (Zac 0) (Zac 1)))
 Zaj) Zaj)
 (Zaf (Zaw (eOp Zbb (eOp Zbb (eOp Zmi (eC (.int 67)) (Zac 1)) (eC (.int 19))) (eCB Zb8 (Zaa (Zac 0) Zae))))
 Zaj))
nonrec def Zdo : FF := Za0 2 2 Zf9
nonrec def Zc9 : SF :=
 (Zaf (Zax 2 (Zcb Zae))
 (Zaf (Zgn (iR1 (Zaa (Zac 1) Zae)) (gNm 3) (Zaf (Zax 4 (eOp ixD (Zcb (Zaa (eC (.str "all")) (Zaa (eC (.str "some")) Zae))) (eOp Zb4 (eOp ixD (Zac 0) (eOp Zbb (eC (.int 1)) (Zac 3))) (eC (.int 2)))))
 (Zaf (sIf (tOf (eOp eqD (eOp Zb4 (eOp ixD (Zac 0) (eC (.int 0))) (eC (.int 4))) (eC (.int 1)))) (Zaf (Zax 4 (eOp ixD (Zcb (Zaa (eC (.str "some")) (Zaa (eC (.str "all")) Zae))) (eOp Zb4 (eOp Zbb (Zac 3) (eOp ixD (Zac 0) (eC (.int 1)))) (eC (.int 2)))))
 Zaj) Zaj)
 (Zaf (sIf (tOf (eOp eqD (eOp Zb4 (eOp ixD (Zac 0) (eC (.int 0))) (eC (.int 4))) (eC (.int 2)))) (Zaf (Zax 4 (eOp ixD (Zcb (Zaa (eC (.str "all")) (Zaa (eC (.str "some")) Zae))) (eCB Yb7 (Zaa (eOp gtD (eOp Zb4 (eOp ixD (Zac 0) (eOp Zbb (eC (.int 1)) (Zac 3))) (eC (.int 3))) (eC (.int 0))) Zae))))
 Zaj) Zaj)
 (Zaf (Zdf (eLM Zbd (Zac 2) (Zaa (Zac 4) Zae)))
 Zaj)))))
 (Zaf (Zaw (eCB Zdc (Zaa (Zac 2) Zae)))
 Zaj)))
nonrec def Zfx : FF := Za0 2 5 Zc9
nonrec def Ze2 : SF :=
 (Zaf (Zax 3 (Zam 2 Zbk (Zaa (Zac 0) (Zaa (eOp Zbb (Zac 1) (eC (.int 1))) Zae))))
 (Zaf (Zax 4 (Zcb Zae))
 (Zaf (Zgn (iR1 (Zaa (Zac 1) Zae)) (gNm 5) (Zaf (sIf (tOf (eOp ltD (eOp Zb4 (eOp ixD (Zac 3) (eOp Zbb (eC (.int 1)) (Zac 5))) (eOp Zbb (Zac 1) (eC (.int 1)))) (eOp Zbb (Zac 2) (eOp Zb4 (eOp ixD (Zac 3) (eC (.int 0))) (eC (.int 3)))))) (Zaf (Zdf (eLM Zbd (Zac 4) (Zaa (eOp ixD (Zcb (Zaa (eOp Zbb (Zac 5) (eC (.int 1))) (Zaa (eOp Zi5 (eOp Zi5 (eC (.int 0)) (Zac 5)) (eC (.int 1))) Zae))) (eOp Zb4 (eOp Zkw (eOp ixD (Zac 3) (eOp Zbb (eC (.int 1)) (Zac 5))) (eOp Zbb (Zac 1) (eC (.int 1)))) (eC (.int 2)))) Zae)))
 Zaj) Zaj)
 Zaj))
 (Zaf (Zaw (eCB Zdc (Zaa (Zac 4) Zae)))
 Zaj))))
nonrec def Zh8 : FF := Za0 3 6 Ze2
nonrec def Zc7 : SF :=
 (Zaf (Zax 2 (Zam 2 Zbk (Zaa (Zam 2 Zdo (Zaa (Zac 0) (Zaa (eC (.int 0)) Zae))) (Zaa (eC (.int 14)) Zae))))
 (Zaf (Zax 3 (eOp ixD (Zcb (Zaa (eOp Zb4 (eOp ixD (Zac 2) (eC (.int 0))) (eOp Zbb (Zac 1) (eC (.int 1)))) (Zaa (eOp Zi5 (Zac 1) (eOp Zb4 (eOp ixD (Zac 2) (eC (.int 0))) (eC (.int 3)))) (Zaa (Zac 1) Zae)))) (eOp Zb4 (eOp ixD (Zac 2) (eC (.int 1))) (eC (.int 3)))))
 (Zaf (Zax 4 (Zam 2 Zfx (Zaa (eSl (Zac 2) (Zbh (eC (.int 2))) Zb0) (Zaa (eCB Zzi (Zaa (eC (.int 0)) (Zaa (Zac 3) Zae))) Zae))))
 (Zaf (Zax 5 (eOp ixD (Zcb (Zaa (eOp Zb4 (eOp ixD (Zac 2) (eC (.int 12))) (eC (.int 5))) (Zaa (eOp Zb4 (eOp ixD (Zac 2) (eC (.int 12))) (eC (.int 11))) (Zaa (eOp Zbb (eC (.int 5)) (eOp Zb4 (eOp ixD (Zac 2) (eC (.int 12))) (eC (.int 16)))) Zae)))) (eOp Zb4 (eOp ixD (Zac 2) (eC (.int 11))) (eC (.int 3)))))
 (Zaf (Zax 6 (eLC (iR1 (Zaa (Zac 5) Zae)) [0, 4] Zte (Zam 3 Zh8 (Zaa (Zam 2 Zdo (Zaa (Zac 1) (Zaa (eOp Zbb (eC (.int 1)) (Zac 0)) Zae))) (Zaa (eCB Zb8 (Zaa (Zac 2) Zae)) (Zaa (eC (.int 1)) Zae))))))
 (Zaf (sIf (tOf (eOp gtD (eOp Zb4 (eOp ixD (Zac 2) (eC (.int 13))) (eC (.int 3))) (eC (.int 0)))) (Zaf (Zax 6 (eLC (iSq (Zac 6)) [] (tOf (eOp neD (Zac 0) (Zem Zae))) (Zac 0)))
 Zaj) Zaj)
 (Zaf (Zaw (Zem (Zaa (Zac 4) (Zaa (eCB Zdc (Zaa (Zac 6) Zae)) Zae))))
 Zaj)))))))
nonrec def Zfq : FF := Za0 2 7 Zc7
nonrec def Zc5 : SF :=
 (Zaf (Zaw (eOp eqD (eOp ixD (Zac 1) (eOp Zi5 (eCB Zpu (Zaa (Zac 0) Zae)) (eC (.int 1)))) (eOp gtD (Zac 0) (eC (.int 0)))))
 Zaj)
nonrec def Zdb : FF := Za0 2 2 Zc5
nonrec def Zc1 : SF :=
 (Zaf (Zax 1 (Zcb (Zaa (Zem Zae) Zae)))
 (Zaf (Zgn (iR1 (Zaa (Zac 0) Zae)) (gNm 2) (Zaf (Zax 3 (Zcb Zae))
 (Zaf (Zgn (iSq (Zac 1)) (gNm 4) (Zaf (Zax 3 (eOp Zbb (Zac 3) (Zcb (Zaa (eOp Zbb (Zac 4) (Zem (Zaa (eC (.bl false)) Zae))) (Zaa (eOp Zbb (Zac 4) (Zem (Zaa (eC (.bl true)) Zae))) Zae)))))
 Zaj))
 (Zaf (Zax 1 (Zac 3))
 Zaj))))
 (Zaf (Zaw (Zac 1))
 Zaj)))
nonrec def Zfr : FF := Za0 1 5 Zc1
nonrec def Zdx : SF :=
 (Zaf (Zgn (iSq (Zac 0)) (gNm 2) (Zaf (sIf (tOf (eOp eqD (eLC (iSq (Zac 2)) [1] (Ze4 (Zam 2 Zdb (Zaa (Zac 0) (Zaa (Zac 1) Zae)))) (Zac 0)) (Zcb Zae))) (Zaf (Zaw (eC (.bl true)))
 Zaj) Zaj)
 Zaj))
 (Zaf (Zaw (eC (.bl false)))
 Zaj))
nonrec def Zg1 : FF := Za0 2 3 Zdx
nonrec def Zbw : SF :=
 (Zaf (Zaw (eAn (eCB Zhp (Zaa (Zac 0) (Zaa (eC (.ty "int")) Zae))) (eAn (eNo (eCB Zhp (Zaa (Zac 0) (Zaa (eC (.ty "bool")) Zae)))) (eCh leD ltD (eC (.int 0)) (Zac 0) (Zac 1)))))
 Zaj)
nonrec def Zbn : FF := Za0 2 2 Zbw
nonrec def Zd4 : SF :=
 (Zaf (Zax 2 (Zcb Zae))
 (Zaf (Zgn (Zr1 (Zaa (Zac 1) Zae)) (gTp 2 (gCn (gNm 3) (gCn (gNm 4) gNl))) (Zaf (Zax 5 (eLC (iSq (eSl (Zac 1) (Zbh (Zac 3)) Zb0)) [0] (tOf (eOp neD (eOp ixD (Zac 1) (eOp Zi5 (eCB Zpu (Zaa (Zac 0) Zae)) (eC (.int 1)))) (eC (.str "some")))) (Zac 0)))
 (Zaf (sIf (tOf (eOp neD (Zac 5) (Zcb Zae))) (Zaf (Zdf (eLM Zbd (Zac 2) (Zaa (Zac 4) Zae)))
 Zaj) Zaj)
 Zaj)))
 (Zaf (Zaw (eCB Zdc (Zaa (Zac 2) Zae)))
 Zaj)))
nonrec def Zgq : FF := Za0 2 6 Zd4
nonrec def Zcm : SF :=
 (Zaf (sIf (Zgl (tOf (eOp niD (Zac 2) (Zac 0))) (tOf (eOp niD (eUn Zme (Zac 2)) (Zac 1)))) (Zaf (Zaw (eC .non))
 Zaj) Zaj)
 (Zaf (Zax 3 eDI)
 (Zaf (Zgn (iSq (eOp Zbb (Zac 0) (Zac 1))) (gNm 4) (Zaf (sIf (tOf (eOp neD (eCB Zpu (Zaa (Zac 4) Zae)) (Zac 2))) (Zaf (sIf (tOf (eOp iinD (eUn Zme (Zac 4)) (Zac 3))) (Zaf (Zaw (eC .non))
 Zaj) Zaj)
 (Zaf (Yck (eC (.bl true)) (gSb (Zac 3) (Zac 4) Zs8))
 Zaj)) Zaj)
 Zaj))
 (Zaf (Zaw (eCB Zdc (Zaa (eCB Zh3 (Zaa (Zac 3) Zae)) Zae)))
 Zaj))))
nonrec def Zdj : FF := Za0 3 5 Zcm
nonrec def Zb6 : SF :=
 (Zaf (sIf (tNo (Ze4 (eCB Zhp (Zaa (Zac 1) (Zaa (eC (.ty "tuple")) Zae))))) (Zaf (Zaw (eC (.bl false)))
 Zaj) Zaj)
 (Zaf (Zax 2 (eC (.int 0)))
 (Zaf (Zgn (iSq (Zac 1)) (gNm 3) (Zaf (sIf (Zgl (tNo (Ze4 (eCB Zhp (Zaa (Zac 3) (Zaa (eC (.ty "int")) Zae))))) (Ze4 (eCB Zhp (Zaa (Zac 3) (Zaa (eC (.ty "bool")) Zae))))) (Zaf (Zaw (eC (.bl false)))
 Zaj) Zaj)
 (Zaf (sIf (tNo (tOf (eCh ltD leD (Zac 2) (eCB Zpu (Zaa (Zac 3) Zae)) (eCB Zb8 (Zaa (eOp ixD (Zac 0) (eC (.int 0))) Zae))))) (Zaf (Zaw (eC (.bl false)))
 Zaj) Zaj)
 (Zaf (Zax 2 (eCB Zpu (Zaa (Zac 3) Zae)))
 Zaj))))
 (Zaf (Zgn (iSq (eOp ixD (Zac 0) (eC (.int 1)))) (gNm 4) (Zaf (sIf (tOf (eOp eqD (eLC (iSq (Zac 4)) [1] (tOf (eOp inD (Zac 0) (Zac 1))) (Zac 0)) (Zcb Zae))) (Zaf (Zaw (eC (.bl false)))
 Zaj) Zaj)
 Zaj))
 (Zaf (Zaw (eC (.bl true)))
 Zaj)))))
nonrec def Zcv : FF := Za0 2 5 Zb6
nonrec def Zdy : SF :=
 (Zaf (sIf (Zgl (tNo (Ze4 (eCB Zhp (Zaa (Zac 2) (Zaa (eC (.ty "tuple")) Zae))))) (Zgl (tOf (eOp eqD (eCB Zb8 (Zaa (Zac 2) Zae)) (eC (.int 0)))) (tNo (Ze4 (eCB Zhp (Zaa (eOp ixD (Zac 2) (eC (.int 0))) (Zaa (eC (.ty "str")) Zae))))))) (Zaf (Zaw (eC .non))
 Zaj) Zaj)
 (Zaf (sIf (tAn (tOf (eOp eqD (eOp ixD (Zac 2) (eC (.int 0))) (eC (.str "less")))) (tAn (tOf (eOp eqD (eCB Zb8 (Zaa (Zac 2) Zae)) (eC (.int 2)))) (Ze4 (Zam 2 Zbn (Zaa (eOp ixD (Zac 2) (eC (.int 1))) (Zaa (eCB Zb8 (Zaa (Zac 1) Zae)) Zae)))))) (Zaf (Zaw (Zam 2 Zgq (Zaa (eOp ixD (Zac 0) (eC (.int 0))) (Zaa (eOp ixD (Zac 1) (eOp ixD (Zac 2) (eC (.int 1)))) Zae))))
 Zaj) Zaj)
 (Zaf (sIf (tAn (tOf (eOp eqD (eOp ixD (Zac 2) (eC (.int 0))) (eC (.str "joined")))) (tOf (eOp eqD (eCB Zb8 (Zaa (Zac 2) Zae)) (eC (.int 4))))) (Zaf (Zax 3 (eLC (iR1 (Zaa (eCB Zb8 (Zaa (eOp ixD (Zac 0) (eC (.int 0))) Zae)) Zae)) [0] (tOf (eOp neD (eOp ixD (eOp ixD (Zac 1) (eC (.int 0))) (Zac 0)) (eC (.str "some")))) (eOp Zbb (Zac 0) (eC (.int 1)))))
 (Zaf (sIf (tOf (eOp inD (eC (.bl false)) (eLC (iSq (eSl (Zac 2) (Zbh (eC (.int 1))) (Zbh (eC (.int 3))))) [1] Zte (Zam 2 Zbn (Zaa (Zac 0) (Zaa (eCB Zb8 (Zaa (Zac 1) Zae)) Zae)))))) (Zaf (Zaw (eC .non))
 Zaj) Zaj)
 (Zaf (sIf (Zgl (tNo (Ze4 (Zam 2 Zbn (Zaa (eOp ixD (Zac 2) (eC (.int 3))) (Zaa (eOp Zbb (eCB Zb8 (Zaa (eOp ixD (Zac 0) (eC (.int 0))) Zae)) (eC (.int 1))) Zae))))) (tOf (eOp niD (eOp ixD (Zac 2) (eC (.int 3))) (Zac 3)))) (Zaf (Zaw (eC .non))
 Zaj) Zaj)
 (Zaf (Zaw (Zam 3 Zdj (Zaa (eOp ixD (Zac 1) (eOp ixD (Zac 2) (eC (.int 1)))) (Zaa (eOp ixD (Zac 1) (eOp ixD (Zac 2) (eC (.int 2)))) (Zaa (eOp ixD (Zac 2) (eC (.int 3))) Zae)))))
 Zaj)))) Zaj)
 (Zaf (sIf (tAn (tOf (eOp eqD (eOp ixD (Zac 2) (eC (.int 0))) (eC (.str "term")))) (tAn (tOf (eOp eqD (eCB Zb8 (Zaa (Zac 2) Zae)) (eC (.int 2)))) (Ze4 (Zam 2 Zcv (Zaa (Zac 0) (Zaa (eOp ixD (Zac 2) (eC (.int 1))) Zae)))))) (Zaf (Zaw (eOp ixD (Zac 2) (eC (.int 1))))
 Zaj) Zaj)
 (Zaf (Zaw (eC .non))
 Zaj)))))
nonrec def Zfa : FF := Za0 3 4 Zdy
nonrec def Zd1 : SF :=
 (Zaf (Zax 2 (Zcb Zae))
 (Zaf (Zgn (iSq (Zac 1)) (gNm 3) (Zaf (Zax 4 (Zam 3 Zfa (Zaa (Zac 0) (Zaa (Zac 2) (Zaa (Zac 3) Zae)))))
 (Zaf (sIf (tOf (eOp isD (Zac 4) (eC .non))) (Zaf (Zaw (Zac 2))
 Zaj) Zaj)
 (Zaf (Zdf (eLM Zbd (Zac 2) (Zaa (Zac 4) Zae)))
 Zaj))))
 (Zaf (Zaw (Zac 2))
 Zaj)))
nonrec def Zdv : FF := Za0 2 5 Zd1
nonrec def Zd7 : SF :=
 (Zaf (Zax 3 (Zcb Zae))
 (Zaf (Zgn (iSq (eOp ixD (Zac 0) (eC (.int 1)))) (gNm 4) (Zaf (Zax 5 (eLC (iSq (Zac 4)) [1] (Ze4 (Zam 2 Zdb (Zaa (Zac 0) (Zaa (Zac 1) Zae)))) (Zac 0)))
 (Zaf (sIf (tOf (eOp eqD (eLC (iSq (Zac 5)) [3] (tOf (eOp inD (Zac 0) (Zac 1))) (Zac 0)) (Zcb Zae))) (Zaf (Zdf (eLM Zbd (Zac 3) (Zaa (eOp ixD (Zac 5) (eOp Zb4 (eOp ixD (Zac 2) (eC (.int 1))) (eCB Zb8 (Zaa (Zac 5) Zae)))) Zae)))
 Zaj) Zaj)
 Zaj)))
 (Zaf (Zgn (Zr1 (Zaa (Zac 1) Zae)) (gTp 2 (gCn (gNm 6) (gCn (gNm 7) gNl))) (Zaf (Zax 8 (eOp ixD (Zcb (Zaa (eOp Zi5 (eOp Zi5 (eC (.int 0)) (Zac 6)) (eC (.int 1))) (Zaa (eOp Zbb (Zac 6) (eC (.int 1))) Zae))) (eCB Yb7 (Zaa (Zac 7) Zae))))
 (Zaf (sIf (tAn (tOf (eOp eqD (eOp Zb4 (eOp Zkw (eOp ixD (Zac 2) (eC (.int 2))) (eOp Zbb (Zac 6) (eC (.int 1)))) (eC (.int 3))) (eC (.int 0)))) (tOf (eOp niD (Zac 8) (Zac 3)))) (Zaf (Zdf (eLM Zbd (Zac 3) (Zaa (Zac 8) Zae)))
 Zaj) Zaj)
 Zaj)))
 (Zaf (Zaw (eCB Zdc (Zaa (eCB Zjf (Zaa (Zac 3) Zae)) Zae)))
 Zaj))))
nonrec def Zg4 : FF := Za0 3 9 Zd7
nonrec def Zbi : SF :=
 (Zaf (sIf (tAn (tOf (eOp eqD (eOp Zb4 (eOp ixD (Zac 3) (eC (.int 0))) (eC (.int 4))) (eC (.int 0)))) (tOf (eOp neD (Zac 1) (Zcb Zae)))) (Zaf (Zaw (Zem (Zaa (eC (.str "less")) (Zaa (eOp Zb4 (eOp ixD (Zac 3) (eC (.int 1))) (eCB Zb8 (Zaa (Zac 1) Zae))) Zae))))
 Zaj) Zaj)
 (Zaf (sIf (tAn (tOf (eOp ltD (eOp Zb4 (eOp ixD (Zac 3) (eC (.int 0))) (eC (.int 4))) (eC (.int 3)))) (tOf (eOp neD (Zac 1) (Zcb Zae)))) (Zaf (Zax 4 (eLC (iR1 (Zaa (eCB Zb8 (Zaa (eOp ixD (Zac 0) (eC (.int 0))) Zae)) Zae)) [0] (tOf (eOp neD (eOp ixD (eOp ixD (Zac 1) (eC (.int 0))) (Zac 0)) (eC (.str "some")))) (eOp Zbb (Zac 0) (eC (.int 1)))))
 (Zaf (Zgn (iR1 (Zaa (eCB Zb8 (Zaa (Zac 1) Zae)) Zae)) (gNm 5) (Zaf (Zax 6 (eOp Zb4 (eOp Zbb (eOp ixD (Zac 3) (eC (.int 1))) (Zac 5)) (eCB Zb8 (Zaa (Zac 1) Zae))))
 (Zaf (Zax 7 (eOp Zb4 (eOp Zbb (eOp ixD (Zac 3) (eC (.int 2))) (eOp Zmi (eC (.int 3)) (Zac 5))) (eCB Zb8 (Zaa (Zac 1) Zae))))
 (Zaf (Zgn (iSq (Zac 4)) (gNm 8) (Zaf (sIf (tOf (eOp Ybn (Zam 3 Zdj (Zaa (eOp ixD (Zac 1) (Zac 6)) (Zaa (eOp ixD (Zac 1) (Zac 7)) (Zaa (Zac 8) Zae)))) (eC .non))) (Zaf (Zaw (Zem (Zaa (eC (.str "joined")) (Zaa (Zac 6) (Zaa (Zac 7) (Zaa (Zac 8) Zae))))))
 Zaj) Zaj)
 Zaj))
 Zaj))))
 Zaj)) Zaj)
 (Zaf (sIf (tOf (eOp eqD (Zac 2) (Zcb Zae))) (Zaf (Zaw (eC .non))
 Zaj) Zaj)
 (Zaf (Zaw (Zem (Zaa (eC (.str "term")) (Zaa (Zam 3 Zg4 (Zaa (Zac 0) (Zaa (eOp ixD (Zac 2) (eOp Zb4 (eOp ixD (Zac 3) (eC (.int 4))) (eCB Zb8 (Zaa (Zac 2) Zae)))) (Zaa (eSl (Zac 3) (Zbh (eC (.int 4))) Zb0) Zae)))) Zae))))
 Zaj))))
nonrec def Zcr : FF := Za0 4 9 Zbi
nonrec def Za8 : SF :=
 (Zaf (Zax 4 (Zcb Zae))
 (Zaf (Zax 5 (Zcb Zae))
 (Zaf (Zax 6 (eLC (iSq (Zam 1 Zfr (Zaa (eCB Zb8 (Zaa (eOp ixD (Zac 0) (eC (.int 0))) Zae)) Zae))) [0] (tNo (Ze4 (Zam 2 Zg1 (Zaa (eOp ixD (Zac 1) (eC (.int 1))) (Zaa (Zac 0) Zae))))) (Zac 0)))
 (Zaf (Zgn (iR1 (Zaa (Zac 3) Zae)) (gNm 7) (Zaf (Zax 8 (eSl (Zam 2 Zbk (Zaa (Zam 2 Zdo (Zaa (Zac 1) (Zaa (eOp Zbb (Zac 2) (Zac 7)) Zae))) (Zaa (eC (.int 24)) Zae))) (Zbh (eC (.int 14))) Zb0))
 (Zaf (Zax 9 (Zam 4 Zcr (Zaa (Zac 0) (Zaa (Zac 5) (Zaa (Zac 6) (Zaa (Zac 8) Zae))))))
 (Zaf (sIf (tOf (eOp Ybn (Zac 9) (eC .non))) (Zaf (Zdf (eLM Zbd (Zac 4) (Zaa (Zac 9) Zae)))
 (Zaf (Zdf (eLM Zbd (Zac 5) (Zaa (Zam 3 Zfa (Zaa (Zac 0) (Zaa (Zac 5) (Zaa (Zac 9) Zae)))) Zae)))
 Zaj)) Zaj)
 Zaj))))
 (Zaf (Zaw (Zac 4))
 Zaj)))))
nonrec def Zch : FF := Za0 4 10 Za8
nonrec def Zbm : SF :=
 (Zaf (Yck (Zac 0) (gTp 2 (gCn (gNm 2) (gCn (gNm 3) gNl))))
 (Zaf (sIf (Zgl (tOf (eOp gtD (eOp Zb4 (Zac 1) (eC (.int 6))) (eC (.int 0)))) (tOf (eOp gtD (eCB Zb8 (Zaa (Zac 2) Zae)) (eC (.int 5))))) (Zaf (Zaw (Zac 0))
 Zaj) Zaj)
 (Zaf (Zaw (Zem (Zaa (Zac 2) (Zaa (eOp Zbb (eOp Zmi (Zac 3) (eOp Zbb (eC (.int 1)) (eOp Zb4 (eOp Zkw (Zac 1) (eC (.int 6))) (eC (.int 4))))) (eRv (Zac 3))) Zae))))
 Zaj)))
nonrec def Zda : FF := Za0 2 4 Zbm
nonrec def Za6 : SF :=
 (Zaf (Zax 4 (eOp ixD (Zcb (Zaa (eCB Zb8 (Zaa (Zac 1) Zae)) (Zaa (eUn Zme (eC (.int 1))) (Zaa (eC (.bl true)) (Zaa (eC .non) (Zaa (eC (.str "0")) (Zaa (eOp Zwj (eC (.int 10)) (eC (.int 20))) (Zaa (eOp Zbb (eCB Zb8 (Zaa (Zac 1) Zae)) (eC (.int 1))) Zae)))))))) (eOp Zb4 (eOp ixD (Zac 3) (eC (.int 1))) (eC (.int 7)))))
 (Zaf (Zax 5 (eCB Zb8 (Zaa (eOp ixD (Zac 0) (eC (.int 0))) Zae)))
 (Zaf (Zax 6 (eCB Zzi (Zaa (eC (.int 1)) (Zaa (eCB Zb8 (Zaa (Zac 1) Zae)) Zae))))
 (Zaf (sIf (tOf (eOp eqD (eOp Zb4 (eOp ixD (Zac 3) (eC (.int 0))) (eC (.int 6))) (eC (.int 0)))) (Zaf (Zax 11 (Zcb (Zaa (eC .non) (Zaa (eCB Zho (Zaa (Zac 2) Zae)) (Zaa (eOp Zbb (Zac 2) (Zem (Zaa (eC (.int 0)) Zae))) (Zaa (eSl (Zac 2) Zb0 (Zbh (eUn Zme (eC (.int 1))))) (Zaa (Zem Zae) (Zaa (Zem (Zaa (eC (.str "least")) (Zaa (eC (.int 0)) Zae))) (Zaa (eC (.int 7)) (Zaa (Zem (Zaa (Zac 2) Zae)) (Zaa (Zem (Zaa (eC (.str "term")) Zae)) (Zaa (Zem (Zaa (eC .non) (Zaa (eC (.int 0)) Zae))) Zae))))))))))))
 (Zaf (Zaw (eOp ixD (eOp Zbb (Zac 11) (Zcb (Zaa (eOp Zbb (Zem (Zaa (Zcb (Zaa (eOp ixD (Zac 2) (eC (.int 0))) Zae)) Zae)) (eSl (Zac 2) (Zbh (eC (.int 1))) Zb0)) Zae))) (eOp Zb4 (eOp ixD (Zac 3) (eC (.int 2))) (eC (.int 11)))))
 Zaj)) Zaj)
 (Zaf (sIf (tOf (eOp eqD (eOp Zb4 (eOp ixD (Zac 3) (eC (.int 0))) (eC (.int 6))) (eC (.int 1)))) (Zaf (Zaw (Zem (Zaa (eC (.str "less")) (Zaa (Zac 4) Zae))))
 Zaj) Zaj)
 (Zaf (sIf (tOf (eOp eqD (eOp Zb4 (eOp ixD (Zac 3) (eC (.int 0))) (eC (.int 6))) (eC (.int 2)))) (Zaf (Zaw (eOp ixD (Zcb (Zaa (Zem (Zaa (eC (.str "joined")) (Zaa (Zac 4) (Zaa (eC (.int 0)) (Zaa (eC (.int 1)) Zae))))) (Zaa (Zem (Zaa (eC (.str "joined")) (Zaa (eC (.int 0)) (Zaa (Zac 4) (Zaa (eC (.int 1)) Zae))))) (Zaa (Zem (Zaa (eC (.str "joined")) (Zaa (eC (.int 0)) (Zaa (eC (.int 0)) (Zaa (Zac 4) Zae))))) Zae)))) (eOp Zb4 (eOp ixD (Zac 3) (eC (.int 2))) (eC (.int 3)))))
 Zaj) Zaj)
 (Zaf (sIf (tOf (eOp eqD (eOp Zb4 (eOp ixD (Zac 3) (eC (.int 0))) (eC (.int 6))) (eC (.int 3)))) (Zaf (Zax 12 (eOp ixD (Zcb (Zaa (eC (.int 0)) (Zaa (eOp Zbb (Zac 5) (eC (.int 1))) (Zaa (eUn Zme (eC (.int 1))) (Zaa (eOp Zbb (eC (.int 1)) (eOp Zb4 (eOp ixD (Zac 3) (eC (.int 3))) (eOp Zbb (Zac 5) (eC (.int 1))))) Zae))))) (eOp Zb4 (eOp Zkw (eOp ixD (Zac 3) (eC (.int 3))) (eC (.int 9))) (eC (.int 4)))))
 (Zaf (Zaw (Zem (Zaa (eC (.str "joined")) (Zaa (eOp Zb4 (eOp ixD (Zac 3) (eC (.int 4))) (Zac 6)) (Zaa (eOp Zb4 (eOp ixD (Zac 3) (eC (.int 2))) (Zac 6)) (Zaa (Zac 12) Zae))))))
 Zaj)) Zaj)
 (Zaf (Zax 7 (eCB Zdc (Zaa (eLC (iR1 (Zaa (Zac 5) Zae)) [3] Zte (eOp ixD (Zcb (Zaa (eOp Zbb (Zac 0) (eC (.int 1))) (Zaa (eOp Zi5 (eOp Zi5 (eC (.int 0)) (Zac 0)) (eC (.int 1))) Zae))) (eOp Zb4 (eOp ixD (Zac 1) (eOp Zbb (eC (.int 4)) (Zac 0))) (eC (.int 2))))) Zae)))
 (Zaf (Zax 8 (eOp Zb4 (eOp ixD (Zac 3) (eC (.int 2))) (eOp Zbb (Zac 5) (eC (.int 1)))))
 (Zaf (Zax 9 (eOp ixD (Zcb (Zaa (eC (.int 0)) (Zaa (eOp Zi5 (eOp Zi5 (eC (.int 0)) (Zac 5)) (eC (.int 1))) (Zaa (eOp Zbb (Zac 5) (eC (.int 1))) (Zaa (eC (.bl true)) (Zaa (eC (.bl false)) (Zaa (eC .non) (Zaa (eC (.str "1")) (Zaa (Zem (Zaa (eC (.int 1)) Zae)) (Zaa (Zcb (Zaa (eC (.int 1)) Zae)) (Zaa (eOp Zwj (eC (.int 10)) (eC (.int 29))) Zae))))))))))) (eOp Zb4 (eOp ixD (Zac 3) (eC (.int 3))) (eC (.int 10)))))
 (Zaf (sIf (tOf (eOp eqD (eOp Zb4 (eOp ixD (Zac 3) (eC (.int 0))) (eC (.int 6))) (eC (.int 4)))) (Zaf (Zaw (Zem (Zaa (eC (.str "term")) (Zaa (eOp Zbb (eOp Zbb (eSl (Zac 7) Zb0 (Zbh (Zac 8))) (Zem (Zaa (Zac 9) Zae))) (eSl (Zac 7) (Zbh (eOp Zbb (Zac 8) (eOp Zb4 (eOp ixD (Zac 3) (eC (.int 1))) (eC (.int 2))))) Zb0)) Zae))))
 Zaj) Zaj)
 (Zaf (Zax 10 (eOp Zbb (eOp Zbb (eSl (Zac 7) Zb0 (Zbh (Zac 8))) (eCB Zdc (Zaa (eLC (iSq (eSl (Zac 7) (Zbh (eCB Zzi (Zaa (eC (.int 0)) (Zaa (eOp Zi5 (Zac 8) (eC (.int 1))) Zae)))) (Zbh (Zac 8)))) [] Zte (eUn Zme (Zac 0))) Zae))) (eSl (Zac 7) (Zbh (Zac 8)) Zb0)))
 (Zaf (Zax 11 (Zcb (Zaa (eOp Zbb (eSl (Zac 7) Zb0 (Zbh (Zac 8))) (eSl (Zac 7) (Zbh (eOp Zbb (Zac 8) (eC (.int 1)))) Zb0)) (Zaa (eRv (Zac 7)) (Zaa (eOp Zbb (Zac 7) (eSl (Zac 7) (Zbh (eUn Zme (eC (.int 1)))) Zb0)) (Zaa (eCB Zho (Zaa (Zac 7) Zae)) (Zaa (Zac 10) (Zaa (eC .non) (Zaa (Zem Zae) Zae)))))))))
 (Zaf (Zaw (Zem (Zaa (eC (.str "term")) (Zaa (eOp ixD (Zac 11) (eOp Zb4 (eOp ixD (Zac 3) (eC (.int 3))) (eC (.int 7)))) Zae))))
 Zaj))))))))))))))
nonrec def Za7 : FF := Za0 4 13 Za6
nonrec def Zb5 : SF :=
 (Zaf (Zax 2 (eC .non))
 (Zaf (Znu 3 (Zaf (Zdf (Zam 2 Zbz (Zaa (Zac 0) (Zaa (Zac 1) Zae))))
 Zaj) (Zfe 2 Ze3 (Zaa (Zac 0) (Zaa (Zac 1) Zae))) (fun i => (Zaf (Zax 2 (eC (.int i))) Zaj)))
 (Zaf (Zaw (Zac 2))
 Zaj)))
nonrec def Zea : FF := Za0 2 4 Zb5
nonrec def Zc3 : SF :=
 (Zaf (Zax 2 (Zcb Zae))
 (Zaf (Znu 3 (Zaf (Zdf (Zam 2 Zbz (Zaa (Zac 0) (Zaa (Zac 1) Zae))))
 Zaj) (Zfe 2 Ze3 (Zaa (Zac 0) (Zaa (Zac 1) Zae))) (fun i => (Zaf (Zax 2 (Zcb (Zaa (eC (.bl true)) (Zaa (eC (.bl true)) Zae)))) (Zaf (Zax 2 (eOp Zbb (Zac 2) (Zcb (Zaa (eC (.bl false)) (Zaa (eC (.bl false)) Zae))))) Zaj))))
 (Zaf (Zaw (eOp eqD (Zac 2) (Zcb (Zaa (eC (.bl true)) (Zaa (eC (.bl true)) (Zaa (eC (.bl false)) (Zaa (eC (.bl false)) Zae)))))))
 Zaj)))
nonrec def Zfn : FF := Za0 2 4 Zc3
nonrec def Zcl : SF :=
 (Zaf (sIf (Zgl (tNo (Ze4 (eCB Zhp (Zaa (Zac 0) (Zaa (eC (.ty "list")) Zae))))) (tOf (eOp neD (Zac 0) (Zac 1)))) (Zaf (Zaw (eC (.bl false)))
 Zaj) Zaj)
 (Zaf (Zgn (iSq (Zac 0)) (gNm 2) (Zaf (sIf (Zgl (tNo (Ze4 (eCB Zhp (Zaa (Zac 2) (Zaa (eC (.ty "tuple")) Zae))))) (tOf (eOp inD (eC (.bl true)) (eLC (iSq (Zac 2)) [] Zte (eCB Zhp (Zaa (Zac 0) (Zaa (eC (.ty "bool")) Zae))))))) (Zaf (Zaw (eC (.bl false)))
 Zaj) Zaj)
 Zaj))
 (Zaf (Zaw (eC (.bl true)))
 Zaj)))
nonrec def Zdg : FF := Za0 2 3 Zcl
nonrec def Zba : SF :=
 (Zaf (Zax 2 (Zam 2 Zdv (Zaa (Zac 0) (Zaa (Zac 1) Zae))))
 (Zaf (Zax 3 (eCB Zko (Zaa (Zac 1) Zae)))
 (Zaf (Zax 4 (Zam 2 Zc6 (Zaa (Zac 0) (Zaa (eCB Zho (Zaa (Zac 1) Zae)) Zae))))
 (Zaf (Zax 5 (eAn (eOp eqD (eSl (Zac 2) (Zbh (eUn Zme (eC (.int 1)))) Zb0) (Zcb (Zaa (Zem Zae) Zae))) (eOp eqD (eCB Zb8 (Zaa (Zac 2) Zae)) (eCB Zb8 (Zaa (Zac 1) Zae)))))
 (Zaf (sIf (Zgl (tOf (eOp neD (eCB Zko (Zaa (Zac 1) Zae)) (Zac 3))) (Zgl (tNo (Ze4 (eCB Zhp (Zaa (Zac 4) (Zaa (eC (.ty "bool")) Zae))))) (tOf (eOp neD (Zac 4) (Zac 5))))) (Zaf (Zaw (eC (.bl false)))
 Zaj) Zaj)
 (Zaf (Zax 6 (eCB Zho (Zaa (Zac 1) Zae)))
 (Zaf (sIf (tOf (eOp eqD (eCB Zb8 (Zaa (Zac 2) Zae)) (eCB Zb8 (Zaa (Zac 1) Zae)))) (Zaf (Zaw (eAn (Zam 2 Zdg (Zaa (Zam 2 Zbz (Zaa (Zac 0) (Zaa (Zac 6) Zae))) (Zaa (Zac 2) Zae))) (eOp eqD (eCB Zko (Zaa (Zac 6) Zae)) (Zac 3))))
 Zaj) Zaj)
 (Zaf (Zax 7 (Zam 2 Zea (Zaa (Zac 0) (Zaa (Zac 6) Zae))))
 (Zaf (sIf (Zgl (tNo (Ze4 (Zam 2 Zbn (Zaa (Zac 7) (Zaa (eCB Zb8 (Zaa (Zac 1) Zae)) Zae))))) (tOf (eOp neD (Zac 7) (eCB Zb8 (Zaa (Zac 2) Zae))))) (Zaf (Zaw (eC (.bl false)))
 Zaj) Zaj)
 (Zaf (sIf (Zgl (tOf (eOp neD (eCB Zko (Zaa (Zac 6) Zae)) (Zac 3))) (tOf (eOp neD (eCB Zko (Zaa (Zac 1) Zae)) (Zac 3)))) (Zaf (Zaw (eC (.bl false)))
 Zaj) Zaj)
 (Zaf (Zaw (Zam 2 Zfn (Zaa (Zac 0) (Zaa (eCB Zho (Zaa (Zac 1) Zae)) Zae))))
 Zaj)))))))))))
nonrec def Zcg : FF := Za0 2 8 Zba
nonrec def Zbf : SF :=
 (Zaf (Zax 2 (Zam 2 Zdv (Zaa (Zac 0) (Zaa (Zac 1) Zae))))
 (Zaf (Zax 3 (eCB Zho (Zaa (Zac 1) Zae)))
 (Zaf (Zgn (iR1 (Zaa (eC (.int 2)) Zae)) (gNm 4) (Zaf (Zax 5 (Zam 2 Zbz (Zaa (Zac 0) (Zaa (Zac 3) Zae))))
 (Zaf (sIf (Zgl (tNo (Ze4 (Zam 2 Zdg (Zaa (Zac 5) (Zaa (Zac 2) Zae))))) (tOf (eOp neD (Zac 3) (Zac 1)))) (Zaf (Zaw (eC (.bl false)))
 Zaj) Zaj)
 (Zaf (Zdf (eLM Zbd (Zac 5) (Zaa (Zem Zae) Zae)))
 Zaj))))
 (Zaf (Zaw (eC (.bl true)))
 Zaj))))
nonrec def Zcs : FF := Za0 2 6 Zbf
nonrec def Zrv : SF :=
 (Zaf (Zax 1 (eSl (Zam 2 Zbk (Zaa (Zam 2 Zdo (Zaa (Zac 0) (Zaa (eC (.int 1)) Zae))) (Zaa (eC (.int 48)) Zae))) (Zbh (eC (.int 28))) Zb0))
 (Zaf (Zax 2 (Zam 2 Zda (Zaa (Zam 2 Zfq (Zaa (Zac 0) (Zaa (eC (.int 8)) Zae))) (Zaa (eOp ixD (Zac 1) (eC (.int 12))) Zae))))
 (Zaf (Zax 3 (Zam 4 Zch (Zaa (Zac 2) (Zaa (Zac 0) (Zaa (eC (.int 2)) (Zaa (eOp Zbb (eC (.int 2)) (eOp Zb4 (eOp ixD (Zac 1) (eC (.int 0))) (eC (.int 13)))) Zae))))))
 (Zaf (sIf (tAn (tOf (eOp eqD (eOp Zb4 (eOp ixD (Zac 1) (eC (.int 13))) (eC (.int 6))) (eC (.int 0)))) (tOf (eOp neD (Zac 3) (Zcb Zae)))) (Zaf (Zax 3 (eOp Zbb (Zac 3) (eLC (iR1 (Zaa (eOp Zb4 (eOp ixD (Zac 1) (eC (.int 14))) (eC (.int 684))) Zae)) [3] Zte (Zem (Zaa (eC (.str "less")) (Zaa (eOp Zi5 (eOp Zbb (eCB Zb8 (Zaa (Zac 1) Zae)) (Zac 0)) (eC (.int 1))) Zae))))))
 Zaj) Zaj)
 (Zaf (sIf (tNo (Ze4 (Zam 2 Zcs (Zaa (Zac 2) (Zaa (Zac 3) Zae))))) (Zaf (Zaw (eC (.bl false)))
 Zaj) Zaj)
 (Zaf (Zax 4 (Zam 2 Zdv (Zaa (Zac 2) (Zaa (Zac 3) Zae))))
 (Zaf (Zgn (iR1 (Zaa (eC (.int 3)) Zae)) (gNm 5) (Zaf (Zax 6 (eSl (Zam 2 Zbk (Zaa (Zam 2 Zdo (Zaa (Zac 0) (Zaa (eOp Zbb (eC (.int 3)) (Zac 5)) Zae))) (Zaa (eC (.int 60)) Zae))) (Zbh (eC (.int 24))) Zb0))
 (Zaf (Zax 7 (eOp Zb4 (eOp ixD (Zac 6) (eC (.int 0))) (eOp Zbb (eCB Zb8 (Zaa (Zac 3) Zae)) (eC (.int 1)))))
 (Zaf (Zax 8 (Zam 4 Za7 (Zaa (Zac 2) (Zaa (eSl (Zac 4) Zb0 (Zbh (Zac 7))) (Zaa (eOp ixD (eOp Zbb (Zac 3) (Zcb (Zaa (Zem (Zaa (eC (.str "less")) (Zaa (eC (.int 0)) Zae))) Zae))) (Zac 7)) (Zaa (eSl (Zac 6) (Zbh (eC (.int 1))) Zb0) Zae))))))
 (Zaf (Zax 9 (eOp Zbb (eOp Zbb (eSl (Zac 3) Zb0 (Zbh (Zac 7))) (Zcb (Zaa (Zac 8) Zae))) (eSl (Zac 3) (Zbh (Zac 7)) Zb0)))
 (Zaf (sIf (tOf (eOp eqD (eOp Zb4 (eOp ixD (Zac 6) (eC (.int 17))) (eC (.int 2))) (eC (.int 0)))) (Zaf (Zax 10 (eOp Zbb (eOp Zbb (Zac 7) (eC (.int 1))) (eOp Zb4 (eOp ixD (Zac 6) (eC (.int 18))) (eOp Zi5 (eCB Zb8 (Zaa (Zac 9) Zae)) (Zac 7)))))
 (Zaf (Zax 8 (Zam 4 Za7 (Zaa (Zac 2) (Zaa (eSl (Zac 4) Zb0 (Zbh (Zac 7))) (Zaa (eOp ixD (eOp Zbb (Zac 3) (Zcb (Zaa (Zem (Zaa (eC (.str "less")) (Zaa (eC (.int 0)) Zae))) Zae))) (Zac 7)) (Zaa (eSl (Zac 6) (Zbh (eC (.int 19))) Zb0) Zae))))))
 (Zaf (Zax 9 (eOp Zbb (eOp Zbb (eSl (Zac 9) Zb0 (Zbh (Zac 10))) (Zcb (Zaa (Zac 8) Zae))) (eSl (Zac 9) (Zbh (Zac 10)) Zb0)))
 Zaj))) Zaj)
 (Zaf (sIf (tNo (Ze4 (Zam 2 Zcg (Zaa (Zac 2) (Zaa (Zac 9) Zae))))) (Zaf (Zaw (eC (.bl false)))
 Zaj) Zaj)
 Zaj)))))))
 (Zaf (Zaw (eOp eqD (Zam 2 Zbz (Zaa (Zac 2) (Zaa (Zcb Zae) Zae))) (Zcb Zae)))
 Zaj))))))))
nonrec def Zo5 : FF := Za0 1 11 Zrv
end K08
set_option maxHeartbeats 4000000
namespace K08
open PySem L2 DL LH WP
nonrec def kS (d : D) : Bool := match d with
 | .str x => x == "some"
 | _ => false
nonrec def Zq4 (b : Bool) : D := if b then .str "some" else .str "all"
theorem Zsh {d : D} (h : Zbx d) : d = Zq4 (kS d) := by
 rcases h with rfl | rfl <;> rfl
theorem Zwx (a b : Bool) (H : HD) : eqD (Zq4 a) (Zq4 b) H = some (.bl (a == b), H) := by
 cases a <;> cases b <;> rfl
theorem at0 (a b : D) : atI [a, b] 0 = some a := Zef (j := 0) rfl
theorem at1 (a b : D) : atI [a, b] 1 = some b := Zef (j := 1) rfl
structure Cl (ks : List D) (rss : List (List Int)) : Prop where
 hk : ∀ d ∈ ks, Zbx d
 hu : ∀ ls ∈ rss, Up ks.length 0 ls
 hl : rss.length ≤ 1000
 h8 : ks.length ≤ 8
nonrec def Zah (ks : List D) (rss : List (List Int)) : D := .tup [.tup ks, .tup (rss.map Za1)]
variable {H : HD} {Q : D -> HD -> Prop}
theorem w_cl0 {ks : List D} {rss : List (List Int)} (q : Q (.tup ks) H) : wE (ixD (Zah ks rss) (.int 0) H) Q := ⟨_, _, ixT (at0 _ _), q⟩
theorem w_cl1 {ks : List D} {rss : List (List Int)} (q : Q (.tup (rss.map Za1)) H) : wE (ixD (Zah ks rss) (.int 1) H) Q := ⟨_, _, ixT (at1 _ _), q⟩
theorem Zx3 {ks : List D} (hk : ∀ d ∈ ks, Zbx d) {i : Nat} (h : i < ks.length) : ks[i]? = some (Zq4 (kS (ks.getD i .non))) := by
 have e0 : ks.getD i .non = ks[i] := by simp [List.getD, h]
 have := Zsh (hk ks[i] (Wag h))
 rw [Was h, e0]
 exact congrArg some this
local macro_rules | `(tactic| fail $s:str) => do
 if s.getString == "g" then `(tactic| (repeat fail "go")) else if s.getString == "i" then `(tactic| ((repeat fail "go"); (refine WP.w_if ?_; (repeat fail "go")))) else Lean.Macro.throwUnsupported
local macro_rules | `(tactic| fail $s:str) => do
 if s.getString == "lk" then `(tactic| first | assumption | with_reducible exact WP.last | (with_reducible refine WP.appL ?_; fail "lk"))
 else if s.getString == "go" then do
  let a0 ← `(by with_unfolding_all rfl)
  let a1 ← `(?_)
  let a2 ← `(by first | (simp; done) | (simp; omega) | omega)
  let a3 ← `(by decide)
  let a4 ← `(by with_unfolding_all first | exact (rfl : _ = true) | exact (rfl : _ = false))
  let a5 ← `(by fail "lk")
  let a6 ← `(by with_unfolding_all exact rfl)
  let t ← ([`WP.w_var].map (·, [a0, a1]) ++ [`WP.w_c, `WP.w_seq, `WP.w_kn, `WP.w_set, `WP.w_op, `WP.w_acons, `WP.w_anil, `WP.w_call, `WP.w_cb, `WP.w_tof, `WP.w_bl, `WP.w_bt, `WP.w_bf, `WP.w_bnt, `WP.w_bnf, `WP.w_ret, `WP.w_fr, `WP.w_kr, `WP.w_snil, `WP.w_expr, `WP.w_for, `WP.w_or, `WP.w_an, `WP.w_no, `WP.w_ttru, `WP.w_eif, `WP.w_eno, `WP.w_ean, `WP.w_eorr, `WP.w_un, `WP.w_ch, `WP.w_int, `WP.w_tup, `WP.w_lst, `WP.w_lm, `WP.w_tm, `WP.w_dm, `WP.w_dn, `WP.w_on, `WP.w_os, `WP.w_sl, `WP.w_rv, `WP.w_lc, `WP.w_asg, `WP.w_gnm, `WP.w_gsb, `WP.w_gcn, `WP.w_gnl].map (·, [a1]) ++ [`WP.w_n, `WP.w_gtp, `WP.w_ixT, `WP.w_isN, `WP.w_isnN, `WP.w_isBl, `WP.w_isnBl].map (·, [a0, a1]) ++ [`WP.w_sz, `WP.w_addT].map (·, [a2, a1]) ++ [`WP.w_mod].map (·, [a3, a1]) ++ [`WP.w_fdiv, `WP.w_mulL, `WP.w_mulR].map (·, [a3, a3, a1]) ++ [`WP.w_eqI', `WP.w_neI', `WP.w_eqS', `WP.w_neS'].map (·, [a4, a1]) ++ [`WP.w_lenR, `WP.w_tupR, `WP.w_itR].map (·, [a5, a1]) ++ [`WP.w_ixR].map (·, [a5, a0, a1]) ++ [`WP.w_isi'].map (·, [a0, a0, a4, a1]) ++ [`WP.w_addI, `WP.w_subI, `WP.w_lt, `WP.w_le, `WP.w_gt, `WP.w_ge, `WP.w_slhi, `WP.w_sllo, `WP.w_sllo1, `WP.w_neg, `WP.w_eqI, `WP.w_neI, `WP.w_eqS, `WP.w_neS, `WP.w_lenT, `WP.w_lenF, `WP.w_abs, `WP.w_intI, `WP.w_intB, `WP.w_max, `WP.w_min, `WP.w_truB, `WP.w_truT, `WP.w_truN, `WP.w_isq, `WP.w_itT, `WP.w_itF, `WP.w_ir1, `WP.w_ir2, `WP.w_ir3, `WP.w_idic, `WP.w_enum, `WP.w_enum1, `WP.w_zip, `WP.w_yes, `WP.w_retn, `WP.w_fn, `WP.w_agn, `WP.w_agr, `WP.w_kb, `WP.w_kc, `WP.w_agb, `WP.w_agc, `WP.w_brk, `WP.w_cnt].map (·, [a1]) ++ [`WP.w_bT, `WP.w_bF].map (·, [a6, a1]) : List (Lean.Name × List Lean.Term)).foldrM (fun p (r : Lean.TSyntax `tactic) => `(tactic| first | with_reducible refine $(Lean.Syntax.mkApp (Lean.mkIdent p.1) p.2.toArray) | $r:tactic)) (← `(tactic| fail "no"))
  return t
 else Lean.Macro.throwUnsupported
local macro_rules | `(tactic| fail $s:str) => do
 if s.getString == "go" then `(tactic| first | with_reducible refine w_lenP ?_ | with_reducible refine w_addP (by omega) ?_ | with_reducible refine w_cl0 ?_ | with_reducible refine w_cl1 ?_)
 else Lean.Macro.throwUnsupported
variable {H : HD} {Q : D -> HD -> Prop}
theorem Yas {t : TF} {f g : SF} {σ : SD} {R : FD -> SD -> HD -> Prop} (B : Bool) (h : wT (t σ H) fun b H' => H' = H ∧ b = B) (ht : B = true -> wS (f σ H) R) (hf : B = false -> wS (g σ H) R) : wS (sIf t f g σ H) R := by
 obtain ⟨b, H1, e, rfl, rfl⟩ := h
 exact w_if ⟨_, _, e, ht, hf⟩
theorem w_mix {cell k : Int} (h0 : 0 ≤ k) (h1 : k ≤ 100) (q : ∀ r H', 0 ≤ r -> r < 2147483648 -> Fm [] H H' -> Q (.int r) H') : wE (Zh7 [.int cell, .int k] H) Q := by
 refine Za2 rfl ?_
 show wS (Zes [some (.int cell), some (.int k), none, none] H) _
 unfold Zes
 obtain ⟨P, hP, hP2, eP⟩ : ∃ P : Int, 0 < P ∧ P < 2147483648 ∧ atI [D.int 2147483647, .int 2147483629, .int 2147483587, .int 2147483579, .int 2147483563, .int 2147483549, .int 2147483543] (k % 7) = some (.int P) := by
  rcases (show k % 7 = 0 ∨ k % 7 = 1 ∨ k % 7 = 2 ∨ k % 7 = 3 ∨ k % 7 = 4 ∨ k % 7 = 5 ∨ k % 7 = 6 by omega) with h | h | h | h | h | h | h <;> rw [h]
  ·exact ⟨2147483647, by omega, by omega, rfl⟩
  ·exact ⟨2147483629, by omega, by omega, rfl⟩
  ·exact ⟨2147483587, by omega, by omega, rfl⟩
  ·exact ⟨2147483579, by omega, by omega, rfl⟩
  ·exact ⟨2147483563, by omega, by omega, rfl⟩
  ·exact ⟨2147483549, by omega, by omega, rfl⟩
  ·exact ⟨2147483543, by omega, by omega, rfl⟩
 fail "g"
 refine w_ixR last eP ?_
 fail "g"
 have c0 := Wah cell (show (998244353 : Int) ≠ 0 by decide)
 have c1 := Wab cell (show (0 : Int) < 998244353 by decide)
 generalize cell % 998244353 = c at *
 refine w_mulL (by omega) (by omega) ?_
 fail "g"
 refine w_mulL (by omega) (by omega) ?_
 fail "g"
 refine w_mod hP ?_
 have a0 := Wah ((c + 104729 * (k + 1)) * (k * k + 7 * k + 13)) (show P ≠ 0 by omega)
 have a1 := Wab ((c + 104729 * (k + 1)) * (k * k + 7 * k + 13)) hP
 generalize (c + 104729 * (k + 1)) * (k * k + 7 * k + 13) % P = a at *
 fail "g"
 refine Zs0 (by decide) (by decide) (by omega) ?_
 fail "g"
 have b0 := Wah (a ^ (5 : Int).toNat) (show (1000000007 : Int) ≠ 0 by decide)
 have b1 := Wab (a ^ (5 : Int).toNat) (show (0 : Int) < 1000000007 by decide)
 generalize a ^ (5 : Int).toNat % 1000000007 = b at *
 refine w_mod hP ?_
 have d0 := Wah (b * 48271 + 31 * k + 5) (show P ≠ 0 by omega)
 have d1 := Wab (b * 48271 + 31 * k + 5) hP
 generalize (b * 48271 + 31 * k + 5) % P = d at *
 fail "g"
 refine Zs0 (by decide) (by decide) (by omega) ?_
 fail "g"
 have e0 := Wah (d ^ (3 : Int).toNat) (show (998244353 : Int) ≠ 0 by decide)
 have e1 := Wab (d ^ (3 : Int).toNat) (show (0 : Int) < 998244353 by decide)
 generalize d ^ (3 : Int).toNat % 998244353 = e at *
 exact q _ _ (by omega) (by omega) (Fm.app _)
def Zqx (ds : List Int) : Prop := ∀ d ∈ ds, 0 ≤ d ∧ d < 2147483648
theorem Zf8 {cell : Int} {many : Nat} (h1 : many ≤ 100) (q : ∀ (ds : List Int) p H', ds.length = many -> Zqx ds -> H'[p]? = some (.lst (ds.map .int)) -> H.length ≤ p -> Fm [] H H' -> Q (.ref p) H') : wE (Zbk [.int cell, .int many] H) Q := by
 refine Za2 rfl ?_
 show wS (Zcn [some (.int cell), some (.int many), none, none, none, none] H) _
 unfold Zcn
 fail "g"
 refine Zs0 (by decide) (by decide) (by decide) ?_
 fail "g"
 generalize decide ((10 : Int) ^ (18 : Int).toNat ≤ Zas cell) = wide
 refine ⟨_, rfl, ⟨by omega, by omega⟩, ?_⟩
 rw [show ((many : Int)).toNat = many by omega]
 refine Zby (fun d t σ H' => d ++ t = Zaq 0 many ∧ ∃ (ds : List Int) (L : Int) (z5 : Option D), ds.length = d.length ∧ Zqx ds ∧ H'[H.length]? = some (.lst (ds.map .int)) ∧ Fm [H.length] (H ++ [.lst []]) H' ∧ 0 ≤ L ∧ σ = [some (.int cell), some (.int many), some (.ref H.length), some (.int L), some (.bl wide), z5]) (fun _ _ _ _ _ => Zfz) (fun d x t σ H1 ⟨e0, ds, L, z5, e1, e2, e3, x1, hL, e5⟩ => ?_) (fun d σ H1 ⟨e0, ds, L, z5, e1, e2, e3, x1, hL, e5⟩ => ?_) _ [] _ _ ⟨rfl, [], Zas cell, _, rfl, (by intro d h; cases h), last, Fm.refl, (by unfold Zas; split <;> omega), rfl⟩
 ·subst e5
  have hx : x ∈ Zaq 0 many := by rw [← e0]; simp
  simp only [Zaq, Xj, War] at hx
  obtain ⟨i, hi, rfl⟩ := hx
  have hd : d.length ≤ 100 := by
   have := congrArg Wdq e0
   simp [Zaq] at this
   omega
  fail "g"
  refine Yas (wide && decide (0 < L)) ?_ (fun h => ?_) (fun h => ?_)
  ·fail "g"
   cases wide
   ·exact ⟨(fun z => nomatch z), fun _ => ⟨rfl, rfl⟩⟩
   ·refine ⟨fun _ => ?_, (fun z => nomatch z)⟩
    fail "g"
    exact ⟨rfl, by simp⟩
  ·fail "g"
   refine ⟨isl e3, ?_⟩
   fail "g"
   refine Zgv e3 (by simp; omega) ?_
   fail "g"
   have m0 := Wah L (show (10007 : Int) ≠ 0 by decide)
   have m1 := Wab L (show (0 : Int) < 10007 by decide)
   refine ⟨by rw [← e0]; simp, ds ++ [L % 10007], L / 10007, _, by simp [e1], ?_, ?_, x1.trans (Fm.set (by simp)), Int.ediv_nonneg hL (by decide), rfl⟩
   ·intro y hy
    rcases Xs.mp hy with h | h
    ·exact e2 y h
    ·simp at h; subst h; exact ⟨m0, by omega⟩
   ·rw [Wad]; exact Zpg e3
  ·fail "g"
   refine ⟨isl e3, ?_⟩
   fail "g"
   refine w_mix (by omega) (by omega) fun r H2 r0 r1 x2 => ?_
   fail "g"
   have e3' := x2.lst (by simp) e3
   refine Zgv e3' (by simp; omega) ?_
   fail "g"
   refine ⟨by rw [← e0]; simp, ds ++ [r], L, _, by simp [e1], ?_, ?_, (x1.trans (x2.sub (by simp))).trans (Fm.set (by simp)), hL, rfl⟩
   ·intro y hy
    rcases Xs.mp hy with h | h
    ·exact e2 y h
    ·simp at h; subst h; exact ⟨r0, r1⟩
   ·rw [Wad]; exact Zpg e3'
 ·subst e5
  have hd : d.length = many := by
   have := congrArg Wdq e0
   simpa [Zaq] using this
  fail "g"
  exact q ds _ H1 (by omega) e2 e3 (Xc _) ((Fm.app (S := []) _).new x1 (by intro m hm _; simp at hm; omega))
theorem w_at {ns : List Int} {k : Int} (h0 : 0 ≤ k) (h1 : k ≤ 1000) (q : ∀ c, Q (.int c) H) : wE (Zdo [.fl (ns.map .int), .int k] H) Q := by
 refine Za2 rfl ?_
 show wS (Zf9 [some (.fl (ns.map .int)), some (.int k)] H) _
 unfold Zf9
 fail "i"
 refine ⟨fun h => ?_, fun h => ?_⟩
 ·have lt : k.toNat < ns.length := by have := of_decide_eq_true h; simp at this; omega
  fail "g"
  refine w_ixF (Zmp h0 (d := .int ns[k.toNat]) (by rw [Waf, Was lt]; rfl)) ?_
  fail "g"
  exact q _
 ·fail "g"
  exact q _
theorem Zay {p : Nat} {ds : List Int} {i : Int} (g : H[p]? = some (.lst (ds.map .int))) (hd : Zqx ds) (h0 : 0 ≤ i) (h1 : i < ds.length) (q : ∀ r, 0 ≤ r -> r < 2147483648 -> Q (.int r) H) : wE (ixD (.ref p) (.int i) H) Q := by
 have lt : i.toNat < ds.length := by omega
 have hm := hd _ (Wag lt)
 exact w_ixR g (Zmp h0 (d := .int ds[i.toNat]) (by rw [Waf, Was lt]; rfl)) (q _ hm.1 hm.2)
theorem Zwq {r : Int} (h0 : 0 ≤ r) (h1 : r < 2) : ∃ k, Zbx k ∧ atI [D.str "all", .str "some"] r = some k := by
 rcases (show r = 0 ∨ r = 1 by omega) with rfl | rfl
 ·exact ⟨_, .inl rfl, rfl⟩
 ·exact ⟨_, .inr rfl, rfl⟩
theorem Zzv {r : Int} (h0 : 0 ≤ r) (h1 : r < 2) : ∃ k, Zbx k ∧ atI [D.str "some", .str "all"] r = some k := by
 rcases (show r = 0 ∨ r = 1 by omega) with rfl | rfl
 ·exact ⟨_, .inr rfl, rfl⟩
 ·exact ⟨_, .inl rfl, rfl⟩
theorem mod2 (r : Int) : 0 ≤ r % 2 ∧ r % 2 < 2 := by omega
theorem Zw7 {p : Nat} {ds : List Int} {many : Nat} (g : H[p]? = some (.lst (ds.map .int))) (hd : Zqx ds) (hl : many + 1 ≤ ds.length) (h100 : many ≤ 100) (q : ∀ ks H', (∀ d ∈ ks, Zbx d) -> ks.length = many -> Fm [] H H' -> Q (.tup ks) H') : wE (Zfx [.ref p, .int many] H) Q := by
 refine Za2 rfl ?_
 show wS (Zc9 [some (.ref p), some (.int many), none, none, none] H) _
 unfold Zc9
 fail "g"
 have hp : p < H.length := (Xd.mp g).1
 refine ⟨_, rfl, ⟨by omega, by omega⟩, ?_⟩
 rw [show ((many : Int)).toNat = many by omega]
 refine Zby (fun d t σ H' => d ++ t = Zaq 0 many ∧ ∃ (ks : List D) (z3 z4 : Option D), ks.length = d.length ∧ (∀ d ∈ ks, Zbx d) ∧ H'[H.length]? = some (.lst ks) ∧ Fm [H.length] (H ++ [.lst []]) H' ∧ σ = [some (.ref p), some (.int many), some (.ref H.length), z3, z4]) (fun _ _ _ _ _ => Zfz) (fun d x t σ H1 ⟨e0, ks, z3, z4, e1, e2, e3, x1, e5⟩ => ?_) (fun d σ H1 ⟨e0, ks, z3, z4, e1, e2, e3, x1, e5⟩ => ?_) _ [] _ _ ⟨rfl, [], _, _, rfl, (by intro d h; cases h), last, Fm.refl, rfl⟩
 ·subst e5
  have hx : x ∈ Zaq 0 many := by rw [← e0]; simp
  simp only [Zaq, Xj, War] at hx
  obtain ⟨i, hi, rfl⟩ := hx
  have hdl : d.length ≤ 100 := by
   have := congrArg Wdq e0
   simp [Zaq] at this
   omega
  have gp : H1[p]? = some (.lst (ds.map .int)) := x1.lst (by simp; omega) (appL g)
  have Jn : ∀ (L : List D) {H2 : HD}, Fm [H.length] (H ++ [.lst []]) H2 -> H2[p]? = some (.lst (ds.map .int)) -> H2[H.length]? = some (.lst ks) -> Fm [H.length] (H ++ [.lst []]) (H2 ++ [.lst L]) ∧ (H2 ++ [.lst L])[p]? = some (.lst (ds.map .int)) ∧ (H2 ++ [.lst L])[H.length]? = some (.lst ks) := fun L H2 a b c => ⟨a.trans (Fm.app _), appL b, appL c⟩
  refine w_gnm (w_seq ?_)
  refine Zm9 (fun σ H2 => (Fm [H.length] (H ++ [.lst []]) H2 ∧ H2[p]? = some (.lst (ds.map .int)) ∧ H2[H.length]? = some (.lst ks)) ∧ ∃ k, Zbx k ∧ σ = [some (.ref p), some (.int many), some (.ref H.length), some (.int (0 + i)), some k]) ?_ ?_
  ·fail "g"
   refine Zay (appL gp) hd (by omega) (by omega) fun r r0 r1 => ?_
   fail "g"
   obtain ⟨k, hk, ek⟩ := Zwq (mod2 r).1 (mod2 r).2
   refine w_ixR last ek ?_
   exact ⟨rfl, Jn _ x1 gp e3, k, hk, rfl⟩
  rintro _ H2 ⟨⟨x2, g2, e4⟩, k, hk, rfl⟩
  refine w_seq (Zm9 (fun σ H2 => (Fm [H.length] (H ++ [.lst []]) H2 ∧ H2[p]? = some (.lst (ds.map .int)) ∧ H2[H.length]? = some (.lst ks)) ∧ ∃ k, Zbx k ∧ σ = [some (.ref p), some (.int many), some (.ref H.length), some (.int (0 + i)), some k]) ?_ ?_)
  ·(refine WP.w_if ?_; fail "g")
   refine Zay g2 hd (by omega) (by omega) fun r r0 r1 => ?_
   fail "g"
   refine ⟨fun h => ?_, fun h => ?_⟩
   ·fail "g"
    refine Zay (appL g2) hd (by omega) (by omega) fun r' r0' r1' => ?_
    fail "g"
    obtain ⟨k2, hk2, ek2⟩ := Zzv (mod2 (0 + (i : Int) + r')).1 (mod2 _).2
    refine w_ixR last ek2 ?_
    fail "g"
    exact ⟨rfl, Jn _ x2 g2 e4, k2, hk2, rfl⟩
   ·fail "g"
    exact ⟨rfl, ⟨x2, g2, e4⟩, k, hk, rfl⟩
  rintro _ H3 ⟨⟨x3, g3, e6⟩, k, hk, rfl⟩
  refine w_seq (Zm9 (fun σ H2 => (Fm [H.length] (H ++ [.lst []]) H2 ∧ H2[p]? = some (.lst (ds.map .int)) ∧ H2[H.length]? = some (.lst ks)) ∧ ∃ k, Zbx k ∧ σ = [some (.ref p), some (.int many), some (.ref H.length), some (.int (0 + i)), some k]) ?_ ?_)
  ·(refine WP.w_if ?_; fail "g")
   refine Zay g3 hd (by omega) (by omega) fun r r0 r1 => ?_
   fail "g"
   refine ⟨fun h => ?_, fun h => ?_⟩
   ·fail "g"
    refine Zay (appL g3) hd (by omega) (by omega) fun r' r0' r1' => ?_
    fail "g"
    obtain ⟨k2, hk2, ek2⟩ := Zwq (r := if decide (0 < r' % 3) = true then 1 else 0) (by split <;> omega) (by split <;> omega)
    refine w_ixR last ek2 ?_
    fail "g"
    exact ⟨rfl, Jn _ x3 g3 e6, k2, hk2, rfl⟩
   ·fail "g"
    exact ⟨rfl, ⟨x3, g3, e6⟩, k, hk, rfl⟩
  rintro _ H4 ⟨⟨x4, g4, e7⟩, k, hk, rfl⟩
  fail "g"
  refine ⟨isl e7, ?_⟩
  fail "g"
  refine Zgv e7 (by omega) ?_
  fail "g"
  refine ⟨by rw [← e0]; simp, ks ++ [k], _, _, by simp [e1], ?_, Zpg e7, x4.trans (Fm.set (by simp)), rfl⟩
  intro y hy
  rcases Xs.mp hy with h | h
  ·exact e2 y h
  ·simp at h; subst h; exact hk
 ·subst e5
  have hdl : d.length = many := by
   have := congrArg Wdq e0
   simpa [Zaq] using this
  fail "g"
  exact q ks H1 e2 (by omega) ((Fm.app (S := []) _).new x1 (by intro m hm _; simp at hm; omega))
theorem Zrj {m : Int} : ∀ (ls : List Int) (last l : Int), Up m last ls -> (∀ x ∈ ls, Zas x < Zas l) -> last < Zas l -> Zas l ≤ m -> Up m last (ls ++ [l])
 | [], last, l, _, _, h1, h2 => ⟨h1, h2, trivial⟩
 | x :: r, last, l, u, h, h1, h2 => by
  obtain ⟨u1, u2, u3⟩ := u
  exact ⟨u1, u2, Zrj r (Zas x) l u3 (fun y hy => h y (by simp [hy])) (h x (by simp)) h2⟩
theorem Zhf (lo : Int) (m : Nat) : Zaq lo (m + 1) = .int lo :: Zaq (lo + 1) m := by
 unfold Zaq
 rw [List.range_succ_eq_map, Xr, Wbc]
 have e0 : D.int (lo + ((0 : Nat) : Int)) = .int lo := by simp
 rw [e0]
 refine congrArg (Way _) (Weq fun a _ => ?_)
 show D.int _ = D.int _
 congr 1
 omega
theorem Zx2 {cell : Int} {M : Nat} {wide : Int} (hM : M ≤ 8) (q : ∀ ls H', Up M 0 ls -> Fm [] H H' -> Q (Za1 ls) H') : wE (Zh8 [.int cell, .int M, .int wide] H) Q := by
 refine Za2 rfl ?_
 show wS (Ze2 [some (.int cell), some (.int M), some (.int wide), none, none, none] H) _
 unfold Ze2
 fail "g"
 rw [show (M : Int) + 1 = ((M + 1 : Nat) : Int) by omega]
 refine Zf8 (by omega) fun ds p H1 l1 d1 g1 n1 x1 => ?_
 fail "g"
 refine ⟨_, rfl, ⟨by omega, by omega⟩, ?_⟩
 rw [Xy]
 refine Zby (fun d t σ H' => ∃ ls : List Int, t = Zaq (d.length : Int) (M - d.length) ∧ H'[p]? = some (.lst (ds.map .int)) ∧ H'[H1.length]? = some (.lst (ls.map .int)) ∧ ls.length ≤ d.length ∧ d.length ≤ M ∧ Up M 0 ls ∧ (∀ x ∈ ls, Zas x ≤ d.length) ∧ Fm [] H H' ∧ ∃ z, σ = [some (.int cell), some (.int M), some (.int wide), some (.ref p), some (.ref H1.length), z]) (fun _ _ _ _ _ => Zfz) (fun d x t σ H2 ⟨ls, i1, i2, i3, i4, i5, i6, i7, i8, z, i9⟩ => ?_) (fun d σ H2 ⟨ls, i1, i2, i3, i4, i5, i6, i7, i8, z, i9⟩ => ?_) _ [] _ _ ⟨[], by simp, appL g1, last, by simp, by simp, trivial, by simp, x1.trans (Fm.app _), none, rfl⟩
 ·subst i9
  obtain ⟨k, hk⟩ : ∃ k, M - d.length = k + 1 := by
   cases h : M - d.length with
   | zero => rw [h] at i1; simp [Zaq] at i1
   | succ k => exact ⟨k, rfl⟩
  rw [hk, Zhf] at i1
  obtain ⟨rfl, rfl⟩ := Way.inj i1
  have tl : Zaq ((d.length : Int) + 1) k = Zaq (((d ++ [D.int (d.length : Int)]).length : Nat) : Int) (M - (d ++ [D.int (d.length : Int)]).length) := by
   simp only [Wap, Wcd, Wed]
   congr 1
   omega
  fail "i"
  refine Zay i2 d1 (by omega) (by omega) fun r r0 r1 => ?_
  fail "g"
  refine w_mod (by omega) ?_
  fail "g"
  refine Zay i2 d1 (by omega) (by omega) fun r' r0' r1' => ?_
  fail "g"
  refine ⟨fun h => ?_, fun h => ?_⟩
  ·fail "g"
   refine ⟨isl i3, ?_⟩
   fail "g"
   refine Zay (appL i2) d1 (by omega) (by omega) fun r2 r20 r21 => ?_
   fail "g"
   refine w_fdiv (by omega) (by omega) ?_
   fail "g"
   have m2 : r2 / ((M : Int) + 1) % 2 = 0 ∨ r2 / ((M : Int) + 1) % 2 = 1 := by omega
   obtain ⟨l, hl, el⟩ : ∃ l : Int, Zas l = (d.length : Int) + 1 ∧ atI [D.int ((d.length : Int) + 1), .int (0 - (d.length : Int) - 1)] (r2 / ((M : Int) + 1) % 2) = some (.int l) := by
    rcases m2 with z | z <;> rw [z]
    ·exact ⟨_, by unfold Zas; split <;> omega, rfl⟩
    ·exact ⟨_, by unfold Zas; split <;> omega, rfl⟩
   refine w_ixR last el ?_
   fail "g"
   refine Zgv (appL i3) (by simp; omega) ?_
   fail "g"
   have np : H1.length ≠ p := by have := (Xd.mp g1).1; omega
   refine ⟨ls ++ [l], tl, Zxj np (appL i2), by rw [Zpg (appL i3)]; simp, by simp; omega, by simp; omega, Zrj ls 0 l i6 (fun x hx => by have := i7 x hx; omega) (by omega) (by omega), fun x hx => ?_, ?_, _, rfl⟩
   ·rcases Xs.mp hx with z | z
    ·have := i7 x z; simp; omega
    ·simp at z; subst z; simp; omega
   ·exact (i8.trans (Fm.app _)).new (Fm.set (S := [H1.length]) (by simp)) (fun q hq _ => by simp at hq; subst hq; exact x1.len)
  ·fail "g"
   exact ⟨ls, tl, i2, i3, by simp; omega, by simp; omega, i6, fun x hx => by have := i7 x hx; simp; omega, i8, _, rfl⟩
 ·subst i9
  fail "g"
  exact q ls H2 i6 i8
theorem Zl4 {p : Nat} {xs : List D} {k : Nat} (g : H[p]? = some (.lst xs)) (q : Q (.ref H.length) (H ++ [.lst (xs.drop k)])) : wE (slD (.ref p) (some (k : Int)) none H) Q :=
 ⟨_, _, by rw [← Zv1]; simp only [slD, g], q⟩
theorem Zqx.drop {ds : List Int} (h : Zqx ds) (k : Nat) : Zqx (ds.drop k) := fun d hd => h d (Wdd hd)
theorem Zbe (ls : List Int) : Fines (ls.map .int) (ls.map .int) 0 := by
 induction ls with
 | nil => exact .nil
 | cons l r ih => exact .cons (.int l) ih
theorem Zp0 {sd : D} {most : Nat} (at' : ∀ (H : HD) (k : Int) (Q : D -> HD -> Prop), 0 ≤ k -> k ≤ 1000 -> (∀ c, Q (.int c) H) -> wE (Zdo [sd, .int k] H) Q) (hm : 2 ≤ most ∧ most ≤ 8) (q : ∀ ks rss H', Cl ks rss -> ks.length ≤ most -> rss.length ≤ 20 -> Fm [] H H' -> Q (Zah ks rss) H') : wE (Zfq [sd, .int most] H) Q := by
 refine Za2 rfl ?_
 show wS (Zc7 [some sd, some (.int most), none, none, none, none, none] H) _
 unfold Zc7
 fail "g"
 refine at' _ _ _ (by omega) (by omega) fun c => ?_
 fail "g"
 refine Zf8 (many := 14) (by omega) fun ds pd H1 l1 d1 g1 n1 x1 => ?_
 fail "g"
 refine Zay g1 d1 (by omega) (by omega) fun a a0 a1 => ?_
 fail "g"
 refine w_mod (by omega) ?_
 fail "g"
 refine Zay g1 d1 (by omega) (by omega) fun a' a0' a1' => ?_
 fail "g"
 refine Zay (appL g1) d1 (by omega) (by omega) fun b b0 b1 => ?_
 fail "g"
 have m3 : b % 3 = 0 ∨ b % 3 = 1 ∨ b % 3 = 2 := by omega
 obtain ⟨N, hN, eN⟩ : ∃ N : Nat, N ≤ most ∧ atI [D.int (a % ((most : Int) + 1)), .int ((most : Int) - a' % 3), .int (most : Int)] (b % 3) = some (.int N) := by
  have e1 := Wah a (show (most : Int) + 1 ≠ 0 by omega)
  have e2 := Wab a (show 0 < (most : Int) + 1 by omega)
  rcases m3 with z | z | z <;> rw [z]
  ·refine ⟨(a % ((most : Int) + 1)).toNat, by omega, ?_⟩
   rw [Wbk e1]; rfl
  ·refine ⟨((most : Int) - a' % 3).toNat, by omega, ?_⟩
   rw [Wbk (by omega)]; rfl
  ·exact ⟨most, Xc _, rfl⟩
 refine w_ixR last eN ?_
 fail "g"
 refine Zl4 (k := 2) (appL g1) ?_
 fail "g"
 rw [show (if (N : Int) > 0 then (N : Int) else 0) = (N : Int) by split <;> omega]
 rw [← Wbe]
 refine Zw7 (many := N) last (d1.drop 2) (by simp; omega) (by omega) fun ks H2 hk lk x2 => ?_
 have X2 : Fm [] H H2 := ((x1.trans (Fm.app _)).trans (Fm.app _)).trans x2
 have g2 := x2.lst (by simp) (appL (u := DO.lst ((ds.drop 2).map D.int)) (appL (u := DO.lst [D.int (a % ((most : Int) + 1)), .int ((most : Int) - a' % 3), .int (most : Int)]) g1))
 fail "g"
 refine Zay g2 d1 (by omega) (by omega) fun u0 u1 u2 => ?_
 fail "g"
 refine Zay g2 d1 (by omega) (by omega) fun v0 v1 v2 => ?_
 fail "g"
 refine Zay g2 d1 (by omega) (by omega) fun y0 y1 y2 => ?_
 fail "g"
 refine Zay (appL g2) d1 (by omega) (by omega) fun e e0 e1 => ?_
 fail "g"
 have m3' : e % 3 = 0 ∨ e % 3 = 1 ∨ e % 3 = 2 := by omega
 obtain ⟨Z, hZ, eZ⟩ : ∃ Z : Nat, Z ≤ 20 ∧ atI [D.int (u0 % 5), .int (v0 % 11), .int (5 + y0 % 16)] (e % 3) = some (.int Z) := by
  rcases m3' with z | z | z <;> rw [z]
  ·refine ⟨(u0 % 5).toNat, by omega, ?_⟩
   rw [Wbk (by omega)]; rfl
  ·refine ⟨(v0 % 11).toNat, by omega, ?_⟩
   rw [Wbk (by omega)]; rfl
  ·refine ⟨(5 + y0 % 16).toNat, by omega, ?_⟩
   rw [Wbk (by omega)]; rfl
 refine w_ixR last eZ ?_
 fail "g"
 refine ⟨_, rfl, ⟨by omega, by omega⟩, ?_⟩
 rw [Xy]
 have Y : Fm [] H (H2 ++ [DO.lst [D.int (u0 % 5), .int (v0 % 11), .int (5 + y0 % 16)]]) := X2.trans (Fm.app _)
 refine Zn7 (fun d t o H' => ∃ rss : List (List Int), o = rss.map Za1 ∧ rss.length = d.length ∧ d.length + t.length = Z ∧ (∀ ls ∈ rss, Up N 0 ls) ∧ (∀ x ∈ t, ∃ i : Nat, x = .int i ∧ i ≤ 100) ∧ True ∧ H'[pd]? = some (.lst (ds.map .int)) ∧ Fm [] H H') (fun _ _ _ _ _ => Zfz) (fun d x t o H3 ⟨rss, i1, i2, i3, i4, i5, i6, i7, i8⟩ => ?_) _ [] [] _ ⟨[], rfl, rfl, by simp [Zaq], by simp, fun x hx => ?_, trivial, appL g2, Y⟩ (fun d o H3 ⟨rss, i1, i2, i3, i4, i5, i6, i7, i8⟩ => ?_)
 ·obtain ⟨i, rfl, hi⟩ := i5 x (by simp)
  fail "g"
  refine at' _ _ _ (by omega) (by omega) fun cell => ?_
  fail "g"
  rw [lk]
  refine Zx2 (by omega) fun ls H4 u x4 => ?_
  refine ⟨rss ++ [ls], by rw [i1]; simp, by simp [i2], by simp at i3 ⊢; omega, fun y hy => ?_, fun y hy => i5 y (by simp [hy]), trivial, x4.lst (by simp) i7, i8.trans x4⟩
  rcases Xs.mp hy with z | z
  ·exact i4 y z
  ·simp at z; subst z; exact u
 ·simp only [Zaq, Xj, War] at hx
  obtain ⟨k, hk, rfl⟩ := hx
  exact ⟨k, by simp, by omega⟩
 rw [Wcn] at i1
 simp only [Wed, Nat.add_zero] at i3
 subst i1
 refine ⟨by simp; omega, ?_⟩
 show wS (Zaf _ _ [some sd, some (.int most), some (.ref pd), some (.int N), some (.tup ks), some (.int Z), some (.ref H3.length)] (H3 ++ [.lst (rss.map Za1)])) _
 refine w_seq (Zm9 (fun σ H' => ∃ (rs : List (List Int)) (pr : Nat), H'[pr]? = some (.lst (rs.map Za1)) ∧ rs.length ≤ 20 ∧ (∀ ls ∈ rs, Up N 0 ls) ∧ Fm [] H H' ∧ σ = [some sd, some (.int most), some (.ref pd), some (.int N), some (.tup ks), some (.int Z), some (.ref pr)]) ?_ ?_)
 ·(refine WP.w_if ?_; fail "g")
  refine Zay (appL i7) d1 (by omega) (by omega) fun r r0 r1 => ?_
  fail "g"
  refine ⟨fun h => ?_, fun h => ?_⟩
  ·fail "g"
   refine Zb1 (fun d => match d with | .tup xs => !xs.isEmpty | _ => true) (fun H' => H' = H3 ++ [.lst (rss.map Za1)]) (fun _ j => by rw [j]; exact Ztg last) _ (fun x hx H4 j => ?_) _ rfl fun H4 j => ?_
   ·obtain ⟨ls, hls, rfl⟩ := Xj.mp hx
    subst j
    fail "g"
    refine Zxg (Fine.tup (Zbe ls)) (Fine.tup (h := 0) Fines.nil) (by omega) (by omega) ?_
    refine ⟨_, rfl, ?_, rfl⟩
    cases ls <;> simp [Ua, Tab, Za1]
   ·subst j
    have ef : (rss.map Za1).filter (fun d => match d with | .tup xs => !xs.isEmpty | _ => true) = (rss.filter fun ls => !ls.isEmpty).map Za1 := by
     rw [Wbh]
     congr 1
     exact Wfc fun ls _ => by cases ls <;> rfl
    rw [ef]
    have lf := Waj (fun ls : List Int => !ls.isEmpty) rss
    refine ⟨by simp; omega, ?_⟩
    fail "g"
    exact ⟨rfl, _, _, last, by omega, fun ls h => i4 ls (Wac.mp h).1, (i8.trans (Fm.app _)).trans (Fm.app _), rfl⟩
  ·fail "g"
   exact ⟨rfl, rss, _, last, by omega, i4, i8.trans (Fm.app _), rfl⟩
 rintro _ H4 ⟨rs, pr, g4, l4, u4, X4, rfl⟩
 fail "g"
 refine q ks rs H4 ⟨hk, fun ls h => by rw [lk]; exact u4 ls h, by omega, by omega⟩ (by omega) l4 X4
structure Shs (xs : List Vs) (w dp : Nat) : Prop where
 lay : Ut xs = true
 sh : Tbm xs = true
 dep : Tau xs ≤ dp
 lv : Tbb 40 xs = true
 wt : Uz xs ≤ w
def T (S : List Nat) (H : HD) (k w : Nat) (d : D) : Prop := ∃ x, (∀ H', Fm S H H' -> ∀ m, k ≤ m -> toP H' m d = some x) ∧ Sh x w k
def Ts (S : List Nat) (H : HD) (k w : Nat) (ds : List D) : Prop := ∃ xs, (∀ H', Fm S H H' -> ∀ m, k ≤ m -> Zj1 H' m ds = some xs) ∧ Shs xs w k ∧ ds.length ≤ w
section
variable {S : List Nat} {H : HD} {k w : Nat} {d : D} {ds : List D}
theorem T.of (h : Zjb d w k) : T S H k w d := by
 obtain ⟨x, e, s⟩ := h
 exact ⟨x, fun H' _ m _ => e H' m, s⟩
theorem T.le {k' w' : Nat} (h : T S H k w d) (hk : k ≤ k') (hw : w ≤ w') : T S H k' w' d := by
 obtain ⟨x, e, s⟩ := h
 exact ⟨x, fun H' y m hm => e H' y m (Xp hk hm), s.lay, s.sh, Xp s.dep hk, s.lv, Xp s.wt hw⟩
theorem Ts.le {k' w' : Nat} (h : Ts S H k w ds) (hk : k ≤ k') (hw : w ≤ w') : Ts S H k' w' ds := by
 obtain ⟨x, e, s, l⟩ := h
 exact ⟨x, fun H' y m hm => e H' y m (Xp hk hm), ⟨s.lay, s.sh, Xp s.dep hk, s.lv, Xp s.wt hw⟩, Xp l hw⟩
theorem T.fm {H1 : HD} (h : T S H k w d) (y : Fm S H H1) : T S H1 k w d := by
 obtain ⟨x, e, s⟩ := h
 exact ⟨x, fun H' z m hm => e H' (y.trans z) m hm, s⟩
theorem T.fm0 {H1 : HD} (h : T S H k w d) (y : Fm [] H H1) : T S H1 k w d := h.fm (y.sub (by simp))
theorem Ts.fm {H1 : HD} (h : Ts S H k w ds) (y : Fm S H H1) : Ts S H1 k w ds := by
 obtain ⟨x, e, s, l⟩ := h
 exact ⟨x, fun H' z m hm => e H' (y.trans z) m hm, s, l⟩
theorem Ts.nil : Ts S H k w [] := ⟨[], fun H' _ m _ => by rw [Zj1], ⟨rfl, rfl, Wak _, rfl, Wak _⟩, Wak _⟩
theorem Ts.cons {W : Nat} (a : T S H k w d) (b : Ts S H k W ds) : Ts S H k (w + W + 1) (d :: ds) := by
 obtain ⟨x, e1, s⟩ := a
 obtain ⟨xs, e2, s2, l⟩ := b
 refine ⟨x :: xs, fun H' y m hm => by rw [Zj1, e1 H' y m hm, e2 H' y m hm]; rfl, ⟨?_, ?_, ?_, ?_, ?_⟩, by simp; omega⟩
 ·simp [Ut, s.lay, s2.lay]
 ·simp [Tbm, s.sh, s2.sh]
 ·simp only [Tau]; exact Nat.max_le.mpr ⟨s.dep, s2.dep⟩
 ·simp [Tbb, s.lv, s2.lv]
 ·simp only [Uz]
  have := s.wt
  have := s2.wt
  omega
theorem Zj9 {H : HD} {m : Nat} {d : D} {ds : List D} {xs : List Vs} (h : Zj1 H m (d :: ds) = some xs) : ∃ x qs, toP H m d = some x ∧ Zj1 H m ds = some qs ∧ xs = x :: qs := by
 rw [Zj1] at h
 obtain ⟨x, e1, h⟩ := Zo h
 obtain ⟨qs, e2, rfl⟩ := Zm h
 exact ⟨x, qs, e1, e2, rfl⟩
theorem Zhw {H : HD} {m : Nat} : ∀ {ds : List D} {xs : List Vs}, Zj1 H m ds = some xs -> xs.length = ds.length
 | [], xs, h => by rw [Zj1] at h; cases h; rfl
 | d :: ds, xs, h => by
  obtain ⟨x, qs, _, e2, rfl⟩ := Zj9 h
  simp [Zhw e2]
theorem Zgs : ∀ xs : List Vs, xs.length ≤ Uz xs
 | [] => Wak _
 | x :: xs => by
  simp only [Uz, Wcd]
  have := Zgs xs
  omega
theorem Ts.two (h : Ts S H k w (d :: ds)) : ∃ a b, T S H k a d ∧ Ts S H k b ds ∧ a + b + 1 ≤ w := by
 obtain ⟨xs, e, s, l⟩ := h
 obtain ⟨x, qs, e1, e2, rfl⟩ := Zj9 (e H Fm.refl k (Xc _))
 have lay := s.lay
 have sh := s.sh
 have dep := s.dep
 have lv := s.lv
 have wt := s.wt
 simp only [Ut, Xv] at lay
 simp only [Tbm, Xv] at sh
 simp only [Tau] at dep
 simp only [Tbb, Xv] at lv
 simp only [Uz] at wt
 have at_ : ∀ H', Fm S H H' -> ∀ m, k ≤ m -> toP H' m d = some x ∧ Zj1 H' m ds = some qs := fun H' y m hm => by
  obtain ⟨x', qs', e3, e4, e5⟩ := Zj9 (e H' y m hm)
  cases e5
  exact ⟨e3, e4⟩
 have ll := Zhw e2
 have wl := Zgs qs
 refine ⟨x.weight, Uz qs, ⟨x, fun H' y m hm => (at_ H' y m hm).1, lay.1, sh.1, by omega, lv.1, Xc _⟩, ⟨qs, fun H' y m hm => (at_ H' y m hm).2, ⟨lay.2, sh.2, by omega, lv.2, Xc _⟩, by omega⟩, by omega⟩
theorem T.tup (h : Ts S H k w ds) : T S H (k + 1) w (.tup ds) := by
 obtain ⟨xs, e, s, _⟩ := h
 refine ⟨.tuple xs, fun H' y m hm => ?_, s.lay, s.sh, Wbn s.dep, s.lv, s.wt⟩
 have q := e H' y m (by omega)
 cases m <;> rw [toP, q] <;> rfl
theorem T.parts (h : T S H k w (.tup ds)) : Ts S H k w ds := by
 obtain ⟨x, e, s⟩ := h
 have at_ : ∀ H', Fm S H H' -> ∀ m, k ≤ m -> ∃ xs, Zj1 H' m ds = some xs ∧ x = .tuple xs := fun H' y m hm => by
  have := e H' y m hm
  cases m <;> rw [toP] at this <;> (obtain ⟨xs, e2, e3⟩ := Zm this; exact ⟨xs, e2, e3.symm⟩)
 obtain ⟨xs, e1, rfl⟩ := at_ H Fm.refl k (Xc _)
 have ll := Zhw e1
 have wl := Zgs xs
 have wt : Uz xs ≤ w := s.wt
 refine ⟨xs, fun H' y m hm => ?_, ⟨s.lay, s.sh, ?_, s.lv, wt⟩, by omega⟩
 ·obtain ⟨ys, e2, e3⟩ := at_ H' y m hm
  cases e3
  exact e2
 ·have := s.dep
  simp only [Tay] at this
  omega
theorem T.lst {p : Nat} (hp : p ∉ S) (hd : H[p]? = some (.lst ds)) (h : Ts S H k w ds) : T S H (k + 1) w (.ref p) := by
 obtain ⟨xs, e, s, _⟩ := h
 refine ⟨.list xs, fun H' y m hm => ?_, s.lay, s.sh, Wbn s.dep, s.lv, s.wt⟩
 match m, hm with
 | m + 1, hm =>
  rw [toP]
  simp only [y.lst hp hd, e H' y m (by omega), Wcl]
theorem Ts.app {W : Nat} {es : List D} : ∀ {ds : List D} {w : Nat}, Ts S H k w ds -> Ts S H k W es -> Ts S H k (w + W) (ds ++ es)
 | [], w, _, b => b.le (Xc _) (by omega)
 | d :: ds, w, a, b => by
  obtain ⟨a1, a2, t1, t2, l⟩ := a.two
  exact (Ts.cons t1 (Ts.app t2 b)).le (Xc _) (by omega)
theorem Ts.take : ∀ (i : Nat) {ds : List D} {w : Nat}, Ts S H k w ds -> Ts S H k w (ds.take i)
 | 0, ds, w, a => Ts.nil
 | i + 1, [], w, a => a
 | i + 1, d :: ds, w, a => by
  obtain ⟨a1, a2, t1, t2, l⟩ := a.two
  exact (Ts.cons t1 (Ts.take i t2)).le (Xc _) (by omega)
theorem Ybs : ∀ j : Fin 413, (Tbz (.int ((j.val : Int) - 206))).length ≤ 40 ∧ ((Tah ((j.val : Int) - 206)).showable = true) ∧ (Tah ((j.val : Int) - 206)).weight ≤ 40 := by decide
theorem T.int {i : Int} (h0 : -206 ≤ i) (h1 : i ≤ 206) : T S H k 40 (.int i) := by
 have h := Ybs ⟨(i + 206).toNat, by omega⟩
 have e : (((i + 206).toNat : Nat) : Int) - 206 = i := by omega
 rw [e] at h
 exact ⟨.int i, fun H' _ m _ => Zgo H' m i, rfl, h.2.1, Wak _, by simp only [Tav]; exact decide_eq_true h.1, h.2.2⟩
theorem shBig : (Tbz (.int (10 ^ 20))).length ≤ 40 ∧ (Tah (10 ^ 20)).showable = true ∧ (Tah (10 ^ 20)).weight ≤ 70 := by decide +kernel
theorem T.big : T S H k 70 (.int (10 ^ 20)) := by
 have h := shBig
 exact ⟨.int (10 ^ 20), fun H' _ m _ => Zgo H' m _, rfl, h.2.1, Wak _, by simp only [Tav]; exact decide_eq_true h.1, h.2.2⟩
theorem T.bl {b : Bool} : T S H k 40 (.bl b) := (T.of Zjb.bl).le (Wak _) (Xc _)
theorem T.non : T S H k 40 .non := (T.of Zjb.non).le (Wak _) (Xc _)
theorem T.str {x : Str} (h : (x.cps.toList.all fun c => decide (c < 0x110000)) = true) (h2 : (x.cps.toList.all fun c => decide (c < 16 ^ 8)) = true) (h3 : x.cps.size ≤ 40) : T S H k 40 (.str x) := (T.of (Zjb.str (Zce h) h2 h3)).le (Wak _) (Xc _)
end
nonrec def Ze5 (ks : List D) (x : Int) : Bool := kS (ks.getD ((Zas x).toNat - 1) .non)
nonrec def Zde (ks : List D) : List Int -> List Int
 | [] => []
 | l :: r => if (l :: r).all (Ze5 ks) = true then [] else l :: Zde ks r
theorem Zmu (ks : List D) : ∀ b : List Int, (∀ x ∈ b, Ze5 ks x = true) -> Zde ks b = []
 | [], _ => rfl
 | x :: r, h => by rw [Zde, if_pos (Wao.mpr h)]
theorem Zlj (ks : List D) : ∀ (a b : List Int), (∀ x ∈ b, Ze5 ks x = true) -> (∀ x, a.getLast? = some x -> Ze5 ks x = false) -> Zde ks (a ++ b) = a
 | [], b, hb, _ => Zmu ks b hb
 | l :: a, b, hb, ha => by
  have hx := ha _ Wdl
  have hm : a.getLast?.getD l ∈ l :: a := List.mem_of_getLast? (Wdl (a := l) (l := a))
  have hn : ¬ ((l :: (a ++ b)).all (Ze5 ks) = true) := fun z => by
   have := Wao.mp z _ (by rw [← Wcf]; exact Wal _ hm)
   rw [hx] at this; cases this
  rw [Wcf, Zde, if_neg hn, Zlj ks a b hb fun x h => ha x (by rw [Wdl, h]; rfl)]
theorem Zmt (ks : List D) : ∀ a : List Int, (Zde ks a).Sublist a
 | [] => .slnil
 | l :: r => by
  rw [Zde]
  split
  ·exact List.nil_sublist _
  ·exact (Zmt ks r).cons₂ l
structure R (M : Nat) (ls : List Int) : Prop where
 nd : (ls.map Zas).Nodup
 rg : ∀ x ∈ ls, 1 ≤ Zas x ∧ Zas x ≤ M
theorem R.sub {M : Nat} {a b : List Int} (h : R M b) (s : a.Sublist b) : R M a := ⟨(s.map Zas).nodup h.nd, fun x hx => h.rg x (s.subset hx)⟩
theorem R.perm {M : Nat} {a b : List Int} (h : R M b) (s : a.Perm b) : R M a := ⟨(s.map Zas).nodup_iff.mpr h.nd, fun x hx => h.rg x (s.mem_iff.mp hx)⟩
theorem Zwe : ∀ (M : Nat) (l : List Int), l.Nodup -> (∀ x ∈ l, 1 ≤ x ∧ x ≤ (M : Int)) -> l.length ≤ M
 | 0, [], _, _ => Xc _
 | 0, x :: r, _, h => by have := h x (by simp); omega
 | M + 1, l, nd, h => by
  have := Zwe M (l.erase ((M : Int) + 1)) (nd.erase _) fun x hx => by
   have h1 := h x (List.mem_of_mem_erase hx)
   have h2 : x ≠ (M : Int) + 1 := fun z => by subst z; exact (List.Nodup.not_mem_erase nd) hx
   omega
  have h3 := List.length_erase (a := (M : Int) + 1) (l := l)
  split at h3 <;> omega
theorem R.len {M : Nat} {ls : List Int} (h : R M ls) : ls.length ≤ M := by
 have := Zwe M (ls.map Zas) h.nd fun x hx => by
  obtain ⟨y, hy, rfl⟩ := Xj.mp hx
  exact h.rg y hy
 simpa using this
theorem R.inj {M : Nat} {ls : List Int} (h : R M ls) {x y : Int} (hx : x ∈ ls) (hy : y ∈ ls) (e : Zas x = Zas y) : x = y := by
 obtain ⟨i, hi, rfl⟩ := Wek.mp hx
 obtain ⟨j, hj, rfl⟩ := Wek.mp hy
 have := (Wff (xs := ls.map Zas) (i := i) (j := j) (h₀ := by simpa using hi) (h₁ := by simpa using hj) h.nd).mp (by simpa using e)
 subst this; rfl
theorem up_R {M : Nat} : ∀ {ls : List Int} {last : Int}, 0 ≤ last -> Up M last ls -> R M ls ∧ ∀ x ∈ ls, last < Zas x
 | [], _, _, _ => ⟨⟨.nil, by simp⟩, by simp⟩
 | l :: r, last, h0, u => by
  obtain ⟨u1, u2, u3⟩ := u
  obtain ⟨h1, h2⟩ := up_R (by omega) u3
  refine ⟨⟨?_, fun x hx => ?_⟩, fun x hx => ?_⟩
  ·rw [Xr, Wbf]
   refine ⟨fun z => ?_, h1.nd⟩
   obtain ⟨y, hy, e⟩ := Xj.mp z
   have := h2 y hy
   omega
  ·rcases Xn.mp hx with rfl | hx
   ·omega
   ·exact h1.rg x hx
  ·rcases Xn.mp hx with rfl | hx
   ·exact u1
   ·have := h2 x hx; omega
theorem Znc (x : Int) : Zas (-x) = Zas x := by unfold Zas; split <;> split <;> omega
theorem Zm3 {x y : Int} (h : Zas x = Zas y) : x = y ∨ x = -y := by unfold Zas at h; split at h <;> split at h <;> omega
nonrec def Zep (a b : List Int) (n : Int) : Option (List Int) :=
 if n ∉ a ∨ -n ∉ b then none
 else if (b.filter fun x => decide (x ≠ -n)).any (fun x => decide (-x ∈ a.filter fun x => decide (x ≠ n))) = true then none
 else some (Zco ((a.filter fun x => decide (x ≠ n)) ++ (b.filter fun x => decide (x ≠ -n)).filter fun x => decide (x ∉ a.filter fun x => decide (x ≠ n))))
theorem R.join0 {M : Nat} {a b : List Int} (ha : R M a) (hb : R M b) (h : b.any (fun x => decide (-x ∈ a)) = false) : R M (a ++ b.filter fun x => decide (x ∉ a)) := by
 have hb' := hb.sub (Wbu (p := fun x => decide (x ∉ a)) (l := b))
 refine ⟨?_, fun x hx => ?_⟩
 ·rw [Wad, Wbj]
  refine ⟨ha.nd, hb'.nd, fun x hx y hy e => ?_⟩
  obtain ⟨u, hu, rfl⟩ := Xj.mp hx
  obtain ⟨v, hv, rfl⟩ := Xj.mp hy
  obtain ⟨hv1, hv2⟩ := Wac.mp hv
  rcases Zm3 e with z | z
  ·rw [z] at hu
   exact (of_decide_eq_true hv2) hu
  ·have := Wbz.mp h v hv1
   rw [z] at hu
   exact this (decide_eq_true hu)
 ·rcases Xs.mp hx with z | z
  ·exact ha.rg x z
  ·exact hb'.rg x z
theorem R.join {M : Nat} {a b c : List Int} {n : Int} (ha : R M a) (hb : R M b) (h : Zep a b n = some c) : R M c := by
 unfold Zep at h
 split at h
 ·cases h
 ·split at h
  ·cases h
  ·rename_i h2
   cases h
   exact (R.join0 (ha.sub Wbu) (hb.sub Wbu) (by simpa using h2)).perm (Zcc _)
nonrec def Zju (m : Int) : Int -> List D -> Bool
 | _, [] => true
 | last, .int i :: r => decide (last < Zas i) && decide (Zas i ≤ m) && Zju m (Zas i) r
 | _, _ :: _ => false
nonrec def Zkp (d : D) : Int := match d with
 | .int i => i
 | _ => 0
nonrec def Zug (row ls : List Int) : Bool := row.any fun l => decide (l ∈ ls)
nonrec def Zer (ks : List D) (rss : List (List Int)) (d : D) : Option (List Int) := match d with
 | .tup xs => if Zju ks.length 0 xs = true ∧ (rss.all fun row => Zug row (xs.map Zkp)) = true then some (xs.map Zkp) else none
 | _ => none
theorem Zgj {m : Int} : ∀ {xs : List D} {last : Int}, Zju m last xs = true -> xs = (xs.map Zkp).map .int ∧ Up m last (xs.map Zkp)
 | [], _, _ => ⟨rfl, trivial⟩
 | .int i :: r, last, h => by
  rw [Zju, Xv, Xv, decide_eq_true_iff, decide_eq_true_iff] at h
  obtain ⟨e, u⟩ := Zgj h.2
  refine ⟨?_, h.1.1, h.1.2, u⟩
  rw [Xr, Xr, ← e]
  rfl
 | .non :: r, _, h => by cases h
 | .bl _ :: r, _, h => by cases h
 | .str _ :: r, _, h => by cases h
 | .ty _ :: r, _, h => by cases h
 | .tup _ :: r, _, h => by cases h
 | .fl _ :: r, _, h => by cases h
 | .ref _ :: r, _, h => by cases h
theorem Zlw {m : Int} : ∀ {ls : List Int} {last : Int}, Up m last ls -> Zju m last (ls.map .int) = true
 | [], _, _ => rfl
 | l :: r, last, h => by
  obtain ⟨h1, h2, h3⟩ := h
  rw [Xr, Zju, decide_eq_true h1, decide_eq_true h2, Zlw h3]
  rfl
theorem Zkb (ls : List Int) : (ls.map D.int).map Zkp = ls := by rw [Wbc]; exact Wfd ls
theorem Zje {ks : List D} {rss : List (List Int)} {d : D} {ls : List Int} (h : Zer ks rss d = some ls) : d = Za1 ls ∧ Up ks.length 0 ls := by
 unfold Zer at h
 split at h
 ·split at h
  ·rename_i xs hc
   cases h
   obtain ⟨e, u⟩ := Zgj hc.1
   exact ⟨congrArg D.tup e, u⟩
  ·cases h
 ·cases h
theorem Ziy {ks : List D} {rss : List (List Int)} {ls : List Int} (u : Up ks.length 0 ls) (h : ∀ row ∈ rss, ∃ l ∈ row, l ∈ ls) : Zer ks rss (Za1 ls) = some ls := by
 show (if Zju ks.length 0 (ls.map D.int) = true ∧ (rss.all fun row => Zug row ((ls.map D.int).map Zkp)) = true then some ((ls.map D.int).map Zkp) else none) = some ls
 rw [Zkb, if_pos]
 refine ⟨Zlw u, Wao.mpr fun row hr => ?_⟩
 obtain ⟨l, h1, h2⟩ := h row hr
 exact Wau.mpr ⟨l, h1, decide_eq_true h2⟩
nonrec def stp (ks : List D) (rss made : List (List Int)) (d : D) : Option (List Int) := match d with
 | .tup [.str s, b] => if s = "less" then (match b with
   | .int i => if 0 ≤ i ∧ i < made.length then some (Zde ks (made.getD i.toNat [])) else none
   | _ => none)
  else if s = "term" then Zer ks rss b else none
 | .tup [.str s, .int i, .int j, .int n] => if s = "joined" ∧ (0 ≤ i ∧ i < made.length) ∧ (0 ≤ j ∧ j < made.length) ∧ (1 ≤ n ∧ n ≤ ks.length) ∧ Ze5 ks n = false then Zep (made.getD i.toNat []) (made.getD j.toNat []) n else none
 | _ => none
nonrec def mad (ks : List D) (rss : List (List Int)) : List (List Int) -> List D -> List (List Int)
 | made, [] => made
 | made, d :: r => match stp ks rss made d with
  | none => made
  | some x => mad ks rss (made ++ [x]) r
nonrec def mok (ks : List D) (rss : List (List Int)) : List (List Int) -> List D -> Bool
 | _, [] => true
 | made, d :: r => match stp ks rss made d with
  | none => false
  | some x => mok ks rss (made ++ [x]) r
theorem Zf4 (ks : List D) (rss : List (List Int)) : ∀ (ds : List D) (made : List (List Int)), mok ks rss made ds = true -> (mad ks rss made ds).length = made.length + ds.length
 | [], made, _ => rfl
 | d :: r, made, h => by
  unfold mok at h
  unfold mad
  cases e : stp ks rss made d with
  | none => rw [e] at h; cases h
  | some x =>
   rw [e] at h
   simp only
   rw [Zf4 ks rss r _ h]
   simp; omega
theorem Zsw (ks : List D) (rss : List (List Int)) : ∀ (ds : List D) (made : List (List Int)), mok ks rss made ds = false -> (mad ks rss made ds).length < made.length + ds.length
 | [], made, h => by cases h
 | d :: r, made, h => by
  unfold mok at h
  unfold mad
  cases e : stp ks rss made d with
  | none => simp
  | some x =>
   rw [e] at h
   simp only
   have := Zsw ks rss r _ h
   simp at this ⊢; omega
theorem Zj8 (ks : List D) (rss : List (List Int)) : ∀ (a b : List D) (made : List (List Int)), mok ks rss made (a ++ b) = (mok ks rss made a && mok ks rss (mad ks rss made a) b)
 | [], b, made => rfl
 | d :: r, b, made => by
  rw [Wcf]
  cases e : stp ks rss made d with
  | none => simp only [mok, e, Wcb]
  | some x => simp only [mok, mad, e]; exact Zj8 ks rss r b _
theorem Zkk (ks : List D) (rss : List (List Int)) : ∀ (a b : List D) (made : List (List Int)), mok ks rss made a = true -> mad ks rss made (a ++ b) = mad ks rss (mad ks rss made a) b
 | [], b, made, _ => rfl
 | d :: r, b, made, h => by
  rw [Wcf]
  cases e : stp ks rss made d with
  | none => simp only [mok, e] at h; cases h
  | some x => simp only [mok, e] at h; simp only [mad, e]; exact Zkk ks rss r b _ h
theorem stp_R {ks : List D} {rss made : List (List Int)} {d : D} {x : List Int} (hr : ∀ ls ∈ rss, R ks.length ls) (hm : ∀ ls ∈ made, R ks.length ls) (h : stp ks rss made d = some x) : R ks.length x := by
 have get : ∀ {l : List (List Int)} {i : Int}, (∀ ls ∈ l, R ks.length ls) -> 0 ≤ i ∧ i < l.length -> R ks.length (l.getD i.toNat []) := fun hl hi => by
  refine hl _ ?_
  rw [List.getD_eq_getElem?_getD, Was (by omega)]
  exact Wag _
 unfold stp at h
 split at h
 ·split at h
  ·split at h
   ·split at h
    ·rename_i hi; cases h; exact (get hm hi).sub (Zmt ks _)
    ·cases h
   ·cases h
  ·split at h
   ·exact (up_R (by omega) (Zje h).2).1
   ·cases h
 ·split at h
  ·rename_i hc; exact R.join (get hm hc.2.1) (get hm hc.2.2.1) h
  ·cases h
 ·cases h
theorem Zj6 {ks : List D} {rss : List (List Int)} (hr : ∀ ls ∈ rss, R ks.length ls) : ∀ (ds : List D) (made : List (List Int)), (∀ ls ∈ made, R ks.length ls) -> ∀ ls ∈ mad ks rss made ds, R ks.length ls
 | [], made, hm => hm
 | d :: r, made, hm => by
  unfold mad
  cases e : stp ks rss made d with
  | none => exact hm
  | some x =>
   refine Zj6 hr r _ fun ls h => ?_
   rcases Xs.mp h with z | z
   ·exact hm ls z
   ·simp at z; subst z; exact stp_R hr hm e
variable {σ : SD} {H : HD} {Q : D -> HD -> Prop}
theorem Zyg {i n : Nat} {x : String} {F : FF} {f : AF} (h : σ[i]? = some (some (.ty x))) (q : wE (Zam n F f σ H) Q) : wE (Zlk i n x F f σ H) Q := by
 unfold Zlk; rw [h]; simpa using q
theorem Zzd {b su : SF} {y : YFs} {Z : FD -> SD -> HD -> Prop} (h : wS (b σ H) Z) : wS (Znm b y su σ H) Z := by
 obtain ⟨x, σ2, H2, e, q⟩ := h
 unfold Znm; rw [e]
 exact ⟨_, _, _, rfl, q⟩
theorem Zys {b su : SF} {y : YFs} {Z : FD -> SD -> HD -> Prop} (h : wX (b σ H) (y σ H) fun _ H1 => wS (su σ H1) Z) : wS (Znm b y su σ H) Z := by
 obtain ⟨e, i, H1, e1, q⟩ := h
 unfold Znm; rw [e]
 simp only
 rw [e1]
 exact q
nonrec def isS (d : D) (s : Str) : Bool := match d with
 | .str a => a == s
 | _ => false
nonrec def isI (d : D) : Bool := match d with
 | .int _ => true
 | _ => false
nonrec def Zye (d : D) : Bool := match d with
 | .tup _ => true
 | _ => false
nonrec def isSt (d : D) : Bool := match d with
 | .str _ => true
 | _ => false
nonrec def Zff (d : D) (m : Int) : Bool := match d with
 | .int i => decide (0 ≤ i) && decide (i < m)
 | _ => false
theorem Zrm {H : HD} {d : D} {x : Vs} {s : Str} (h : toP H 30 d = some x) : Ua x (.str s) = isS d s := by
 cases d with
 | non => rw [toP] at h; cases h; rfl
 | bl b => rw [toP] at h; cases h; rfl
 | int i => rw [toP] at h; cases h; rfl
 | str a => rw [toP] at h; cases h; simp [Ua, isS]
 | ty c => rw [toP] at h; cases h
 | tup ds =>
  rw [toP] at h
  obtain ⟨ps, _, rfl⟩ := Zm h
  simp [Ua, isS]
 | fl ds =>
  rw [toP] at h
  obtain ⟨ps, _, rfl⟩ := Zm h
  simp [Ua, isS]
 | ref p =>
  rw [toP] at h
  split at h
  ·obtain ⟨ps, _, rfl⟩ := Zm h
   simp [Ua, isS]
  ·cases h
section
variable {S : List Nat} {k w : Nat} {d : D} {ds : List D}
theorem T.ok (h : T S H k w d) (hk : k ≤ 30) : OkE H d := by
 obtain ⟨x, e, s⟩ := h
 exact ⟨x, e H Fm.refl 30 hk, s.lay, Xp s.dep hk⟩
theorem Zh9 (h : T S H k w d) (hk : k ≤ 30) {s : Str} (hs : Tba s = true) (q : Q (.bl (isS d s)) H) : wE (eqD d (.str s) H) Q := by
 obtain ⟨x, e1, e2⟩ := (h.ok hk).dat
 refine ⟨_, _, Zg2 e1 ((Fine.str hs).dat (by omega) H), ?_⟩
 rw [Zrm e2]; exact q
theorem Zxz (h : T S H k w d) (hk : k ≤ 30) {s : Str} (hs : Tba s = true) (q : Q (.bl (!isS d s)) H) : wE (neD d (.str s) H) Q := by
 obtain ⟨x, e1, e2⟩ := (h.ok hk).dat
 refine ⟨_, _, Zgp e1 ((Fine.str hs).dat (by omega) H), ?_⟩
 rw [Zrm e2]; exact q
theorem Zkl (h : T S H k w d) (hk : k ≤ 30) (q : Q (.bl (isI d)) H) : wE (Zd8 [d] H) Q := by
 refine Za2 rfl ?_
 show wS (Zdw [some d] H) _
 unfold Zdw
 fail "g"
 refine Zfd ((h.ok hk).isi "int" rfl) ?_
 have two := (h.ok hk).isi "bool" rfl
 cases d <;> (fail "g"; try (refine Zfd two ?_; fail "g")) <;> exact q
theorem Zkv (h : T S H k w d) (hk : k ≤ 30) (q : Q (.bl (Zye d)) H) : wE (Zhp [d, .ty "tuple"] H) Q := by
 refine Zfd ((h.ok hk).isi "tuple" rfl) ?_
 cases d <;> exact q
theorem Zy4 (h : T S H k w d) (hk : k ≤ 30) (q : Q (.bl (isSt d)) H) : wE (Zhp [d, .ty "str"] H) Q := by
 refine Zfd ((h.ok hk).isi "str" rfl) ?_
 cases d <;> exact q
theorem Zmz {m : Int} (h : T S H k w d) (hk : k ≤ 30) (q : Q (.bl (Zff d m)) H) : wE (Zbu [d, .int m] H) Q := by
 refine Za2 rfl ?_
 show wS (Zbs [some d, some (.int m)] H) _
 unfold Zbs
 fail "g"
 refine Zkl h hk ?_
 cases d with
 | int i =>
  unfold isI
  fail "g"
  refine ⟨fun z => ?_, fun z => ?_⟩
  ·fail "g"
   simpa [Zff, z] using q
  ·fail "g"
   simpa [Zff, z] using q
 | _ => unfold isI; fail "g"; exact q
theorem Zku {m : Int} (h : T S H k w d) (hk : k ≤ 30) (q : Q (.bl (Zff d m)) H) : wE (Zbn [d, .int m] H) Q := by
 refine Za2 rfl ?_
 show wS (Zbw [some d, some (.int m)] H) _
 unfold Zbw
 fail "g"
 refine Zfd ((h.ok hk).isi "int" rfl) ?_
 have two := (h.ok hk).isi "bool" rfl
 cases d with
 | int i =>
  fail "g"
  refine ⟨fun z => ?_, fun z => ?_⟩
  ·fail "g"
   simpa [Zff, z] using q
  ·fail "g"
   simpa [Zff, z] using q
 | _ => fail "g"; exact q
end
theorem Zwp {xs : List D} {i : Nat} {d : D} (h : xs[i]? = some d) : atI xs (i : Int) = some d := Zef h
nonrec def sdS (b : Bool) : D := Zq4 (!b)
theorem Zks {ks : List D} {x : Int} (hk : ∀ d ∈ ks, Zbx d) (h : 1 ≤ Zas x ∧ Zas x ≤ ks.length) : atI ks (Zas x - 1) = some (sdS (!Ze5 ks x)) := by
 have e : Zas x - 1 = (((Zas x).toNat - 1 : Nat) : Int) := by omega
 rw [e]
 refine Zef ?_
 rw [Zx3 hk (by omega)]
 unfold Ze5 sdS
 rw [Weh]
theorem Zyf {b : Bool} (q : Q (.bl (!b)) H) : wE (eqD (sdS b) (.str "some") H) Q := by
 refine ⟨_, _, Zwx (!b) true H, ?_⟩
 cases b <;> exact q
theorem Zng {b : Bool} (q : Q (.bl b) H) : wE (neD (sdS b) (.str "some") H) Q := by
 cases b
 ·exact ⟨_, _, rfl, q⟩
 ·exact ⟨_, _, rfl, q⟩
nonrec def Zhq (ks : List D) (d : D) : Bool := match d with
 | .int n => decide (1 ≤ n) && decide (n ≤ (ks.length : Int)) && !Ze5 ks n
 | _ => false
theorem Znr {S : List Nat} {k w : Nat} {d : D} {ks : List D} (hk : ∀ d ∈ ks, Zbx d) (h : T S H k w d) (h30 : k ≤ 30) (q : Q (.bl (Zhq ks d)) H) : wE (Zb3 [.tup ks, .str "some", d] H) Q := by
 refine Za2 rfl ?_
 show wS (Za3 [some (.tup ks), some (.str "some"), some d] H) _
 unfold Za3
 fail "g"
 refine Zkl h h30 ?_
 cases d with
 | int i =>
  unfold isI
  fail "g"
  refine ⟨fun z => ?_, fun z => ?_⟩
  ·fail "g"
   refine ⟨fun y => ?_, fun y => ?_⟩
   ·have z' := of_decide_eq_true z
    have y' := of_decide_eq_true y
    have ea : Zas i = i := by unfold Zas; split <;> omega
    fail "g"
    rw [← ea]
    refine w_ixT (Zks hk (by omega)) ?_
    fail "g"
    refine Zng ?_
    fail "g"
    simpa [Zhq, z, y, ea] using q
   ·fail "g"
    simpa [Zhq, z, y] using q
  ·fail "g"
   simpa [Zhq, z] using q
 | _ => unfold isI; fail "g"; exact q
theorem Zpp {ks : List D} {ls : List Int} (hk : ∀ d ∈ ks, Zbx d) (h8 : ks.length ≤ 8) (h : R ks.length ls) (q : Q (Za1 (Zde ks ls)) H) : wE (Zg0 [.tup ks, .str "some", Za1 ls] H) Q := by
 have hl := h.len
 refine Za2 rfl ?_
 show wS (Zd6 [some (.tup ks), some (.str "some"), some (.tup (ls.map .int)), none] H) _
 unfold Zd6
 fail "g"
 rw [Xk]
 refine Znq (fun m σ H' => m ≤ ls.length ∧ H' = H ∧ (∀ x ∈ ls.drop m, Ze5 ks x = true) ∧ σ = [some (.tup ks), some (.str "some"), some (.tup (ls.map .int)), some (.int (m : Int))]) (fun m σ H' ⟨i1, i2, i3, i4⟩ => ?_) 20 ls.length _ _ (by omega) ⟨Xc _, rfl, by simp, rfl⟩
 subst i2 i4
 have fi : ∀ m : Nat, (∀ x ∈ ls.drop m, Ze5 ks x = true) -> (∀ x, (ls.take m).getLast? = some x -> Ze5 ks x = false) -> Zde ks ls = ls.take m := fun m h1 h2 => by
  have := Zlj ks (ls.take m) (ls.drop m) h1 h2
  rwa [Wei] at this
 have done : Zde ks ls = ls.take m → Ztd (fun σ1 H1 => wS (Zaf (Zaw (eSl (Zac 2) Zb0 (Zbh (Zac 3)))) Zaj σ1 H1) (fin Q)) (fin Q) .nx [some (.tup ks), some (.str "some"), some (.tup (ls.map .int)), some (.int (m : Int))] H' := fun e => by
  fail "g"
  rw [← Wcp, ← e]
  exact q
 fail "g"
 refine ⟨fun z => ?_, fun z => ?_⟩
 ·have z := of_decide_eq_true z
  obtain ⟨m', rfl⟩ : ∃ m', m = m' + 1 := ⟨m - 1, by omega⟩
  have hm : m' < ls.length := by omega
  have hr := h.rg _ (Wag hm)
  fail "g"
  rw [show ((m' + 1 : Nat) : Int) - 1 = (m' : Int) by omega]
  refine w_ixT (Zwp (d := .int ls[m']) (by simp [hm])) ?_
  fail "g"
  refine w_ixT (Zks hk hr) ?_
  fail "g"
  refine Zyf ?_
  fail "g"
  rw [Weh]
  refine ⟨fun y => ⟨m', rfl, ?_⟩, fun y => ?_⟩
  ·refine w_seq (wS_of (by with_unfolding_all rfl) ?_)
   fail "g"
   refine ⟨by omega, rfl, fun x hx => ?_, ?_⟩
   ·rw [Wbq hm] at hx
    rcases Xn.mp hx with rfl | hx
    ·exact y
    ·exact i3 x hx
   ·show [some (D.tup ks), some (D.str "some"), some (D.tup (ls.map D.int)), some (D.int (((m' + 1 : Nat) : Int) - 1))] = _
    rw [show ((m' + 1 : Nat) : Int) - 1 = (m' : Int) by omega]
  ·refine done (fi _ i3 fun x hx => ?_)
   rw [List.take_succ_eq_append_getElem hm, List.getLast?_append] at hx
   simp at hx
   rw [← hx]; exact y
 ·have z := of_decide_eq_false z
  obtain rfl : m = 0 := by omega
  fail "g"
  rw [← Wcp, ← fi 0 i3 (by simp)]
  exact q
variable {σ : SD} {H : HD} {Q : D -> HD -> Prop}
nonrec def Znj : Option (List Int) -> D
 | none => .non
 | some ls => Za1 ls
theorem Zkj (ls : List Int) (x : Int) : ((ls.map Tah).any fun z => Ua z (.int x)) = decide (x ∈ ls) := by
 rw [Weg, Wau, decide_eq_true_iff]
 constructor
 ·rintro ⟨z, hz, e⟩
  obtain ⟨y, hy, rfl⟩ := Xj.mp hz
  have : y = x := by simpa [Ua] using e
  subst this; exact hy
 ·intro h
  exact ⟨.int x, Xj.mpr ⟨x, h, rfl⟩, by simp [Ua]⟩
theorem Zxb {x : Int} {ls : List Int} (q : Q (.bl (decide (x ∈ ls))) H) : wE (inD (.int x) (.tup (ls.map .int)) H) Q := w_inT (.int x) (Zbe ls) (by omega) (by omega) (by rw [Zkj]; exact q)
theorem Zr5 {x : Int} {ls : List Int} (q : Q (.bl (!decide (x ∈ ls))) H) : wE (niD (.int x) (.tup (ls.map .int)) H) Q := w_niT (.int x) (Zbe ls) (by omega) (by omega) (by rw [Zkj]; exact q)
theorem Zss {p r : Nat} {ds : List D} {xs : List Vs} {h : Nat} (f : Fines ds xs h) (hh : h < 30) (g1 : H[p]? = some (.lst ds)) (g2 : H[r]? = some (.lst [])) (q : Q (.bl (!ds.isEmpty)) H) : wE (neD (.ref p) (.ref r) H) Q :=
 ⟨_, _, Zgp (f.dat hh g1) (Fines.nil.dat (by omega : 0 < 30) g2), by
  have e : Ua (.list xs) (.list []) = ds.isEmpty := by
   cases ds with
   | nil => have := f.len; cases xs with | nil => rfl | cons a b => simp at this
   | cons d r => have := f.len; cases xs with | nil => simp at this | cons a b => simp [Ua, Tab]
  rw [e]; exact q⟩
theorem Znl {xs : List D} (q : Q (.ref H.length) (H ++ [.lst xs])) : wE (Zho [.tup xs] H) Q := ⟨_, _, rfl, q⟩
theorem Zka {p : Nat} {xs : List D} (g : H[p]? = some (.lst xs)) (q : Q (.ref H.length) (H ++ [.lst xs])) : wE (Zho [.ref p] H) Q := ⟨_, _, by simp [Zho, Zmh, g], q⟩
theorem Zr9 {p : Nat} {zs : List Int} (g : H[p]? = some (.lst (zs.map .int))) (hl : zs.length ≤ 60) (nd : (zs.map Zas).Nodup) (q : Q (.ref H.length) (H ++ [.lst ((Zco zs).map .int)])) : wE (Zjf [.ref p] H) Q := by
 refine ⟨_, _, ?_, q⟩
 unfold Zjf
 simp only [Zmh, g, Zb]
 have e : Zgu (zs.map .int) = some zs := by
  clear g nd hl q
  induction zs with
  | nil => rfl
  | cons z r ih => simp [Zgu, ih]
 rw [e]
 simp only [Zb]
 exact if_pos ⟨by omega, nd⟩
theorem Ztn {p : Nat} {zs : List Int} (g : H[p]? = some (.dci (zs.map fun x => (x, .bl true)))) (hl : zs.length ≤ 60) (nd : (zs.map Zas).Nodup) (q : Q (.ref H.length) (H ++ [.lst ((Zco zs).map .int)])) : wE (Zh3 [.ref p] H) Q := by
 refine ⟨_, _, ?_, q⟩
 unfold Zh3
 simp only [g]
 have e : (zs.map fun x => (x, D.bl true)).map (·.1) = zs := by rw [Wbc]; exact Wfd zs
 rw [e]
 exact if_pos ⟨by simp; omega, nd⟩
theorem Zqu {ks : List D} {ls : List Int} (hk : ∀ d ∈ ks, Zbx d) (h8 : ks.length ≤ 8) (h : R ks.length ls) (q : ∀ H', Fm [] H H' -> Q (Za1 (Zde ks ls)) H') : wE (Zgq [.tup ks, Za1 ls] H) Q := by
 have hl := h.len
 refine Za2 rfl ?_
 show wS (Zd4 [some (.tup ks), some (.tup (ls.map .int)), none, none, none, none] H) _
 unfold Zd4
 fail "g"
 refine ⟨_, rfl, ?_⟩
 refine Zby (fun d t σ H' => ∃ (pre r fs : List Int) (z3 z4 z5 : Option D), ls = pre ++ r ∧ t = Zb9 (pre.length : Int) (r.map .int) ∧ fs ++ Zde ks r = Zde ks ls ∧ fs.length ≤ pre.length ∧ H'[H.length]? = some (.lst (fs.map .int)) ∧ Fm [] H H' ∧ σ = [some (.tup ks), some (.tup (ls.map .int)), some (.ref H.length), z3, z4, z5]) (fun _ _ _ _ _ => Zfz) (fun d x t σ H1 ⟨pre, r, fs, z3, z4, z5, i1, i2, i3, i4, i5, i6, i7⟩ => ?_) (fun d σ H1 ⟨pre, r, fs, z3, z4, z5, i1, i2, i3, i4, i5, i6, i7⟩ => ?_) _ [] _ _ ⟨[], ls, [], _, _, _, rfl, rfl, rfl, Xc _, last, Fm.app _, rfl⟩
 ·subst i7
  cases r with
  | nil => cases i2
  | cons l r =>
   obtain ⟨rfl, rfl⟩ := Way.inj (show x :: t = .tup [.int (pre.length : Int), .int l] :: Zb9 ((pre.length : Int) + 1) (r.map .int) from i2)
   have lp : pre.length ≤ 8 := by rw [i1] at hl; simp at hl; omega
   have ed : (ls.map D.int).drop pre.length = (l :: r).map D.int := by rw [i1, ← Wbe, List.drop_left]
   fail "g"
   rw [ed]
   fail "g"
   refine Zb1 (fun d => match d with | .int x => !Ze5 ks x | _ => true) (fun H' => H' = H1) (fun _ j => Zfz) _ (fun y hy H2 j => ?_) _ rfl fun H2 j => ?_
   ·obtain ⟨z, hz, rfl⟩ := Xj.mp hy
    subst j
    have hr := h.rg z (by rw [i1]; exact Wae _ hz)
    fail "g"
    refine w_ixT (Zks hk hr) ?_
    fail "g"
    refine Zng ?_
    exact ⟨_, rfl, rfl, rfl⟩
   ·subst j
    have ef : (((l :: r).map D.int).filter fun d => match d with | .int x => !Ze5 ks x | _ => true) = ((l :: r).filter fun x => !Ze5 ks x).map .int := by
     rw [Wbh]
     rfl
    rw [ef]
    refine ⟨by have := Waj (fun x => !Ze5 ks x) (l :: r); rw [i1] at hl; simp at hl this ⊢; omega, ?_⟩
    have tl : Zb9 ((pre.length : Int) + 1) (r.map .int) = Zb9 (((pre ++ [l]).length : Nat) : Int) (r.map .int) := by simp
    have hn : H.length ≠ H2.length := by have := (Xd.mp i5).1; omega
    fail "i"
    refine Zss (p := H2.length) (Zbe ((l :: r).filter fun x => !Ze5 ks x)) (by omega) (appL last) last ?_
    fail "g"
    refine ⟨fun z => ?_, fun z => ?_⟩
    ·have hn : ¬ ((l :: r).all (Ze5 ks) = true) := fun y => by
      have : ((l :: r).filter fun x => !Ze5 ks x) = [] := Wcv.mpr fun a ha => by rw [Wao.mp y a ha]; simp
      rw [this] at z; cases z
     fail "g"
     refine ⟨isl (appL (appL i5)), ?_⟩
     fail "g"
     refine Zgv (appL (appL i5)) (by simp; omega) ?_
     fail "g"
     refine ⟨pre ++ [l], r, fs ++ [l], _, _, _, by rw [i1]; simp, tl, ?_, by simp; omega, by rw [Zpg (appL (appL i5))]; simp, ?_, rfl⟩
     ·rw [← i3]
      conv => rhs; rw [Zde, if_neg hn]
      simp
     ·exact ((i6.trans (Fm.app _)).trans (Fm.app _)).new (Fm.set (S := [H.length]) (by simp)) (fun q hq _ => by simp at hq; subst hq; exact Xc _)
    ·have hn : (l :: r).all (Ze5 ks) = true := by
      rw [Wao]
      intro a ha
      cases y : Ze5 ks a with
      | true => rfl
      | false =>
       have : a ∈ (l :: r).filter fun x => !Ze5 ks x := Wac.mpr ⟨ha, by rw [y]; rfl⟩
       cases w : (l :: r).filter fun x => !Ze5 ks x with
       | nil => rw [w] at this; cases this
       | cons b bs => rw [w] at z; cases z
     fail "g"
     refine ⟨pre ++ [l], r, fs, _, _, _, by rw [i1]; simp, tl, ?_, by simp; omega, appL (appL i5), (i6.trans (Fm.app _)).trans (Fm.app _), rfl⟩
     rw [← i3]
     conv => rhs; rw [Zde, if_pos hn]
     rw [Zmu ks r fun x hx => Wao.mp hn x (by simp [hx])]
 ·subst i7
  cases r with
  | cons l r => cases i2
  | nil =>
   fail "g"
   have e : fs = Zde ks ls := by rw [← i3]; exact (Xu fs).symm
   rw [e]
   exact q _ i6
variable {σ : SD} {H : HD} {Q : D -> HD -> Prop}
nonrec def Zln (a b : List Int) : Option (List Int) := if b.any (fun x => decide (-x ∈ a)) = true then none else some (Zco (a ++ b.filter fun x => decide (x ∉ a)))
theorem Zjk (a b : List Int) (n : Int) (h : n ∈ a ∧ -n ∈ b) : Zep a b n = Zln (a.filter fun x => decide (x ≠ n)) (b.filter fun x => decide (x ≠ -n)) := by
 unfold Zep Zln
 rw [if_neg (by simp [h.1, h.2])]
theorem Zk5 {a : List Int} {n : Int} (hl : a.length ≤ 1000) (q : ∀ H', Fm [] H H' -> Q (Za1 (a.filter fun x => decide (x ≠ n))) H') : wE (Zgf [Za1 a, .int n] H) Q := by
 refine Za2 rfl ?_
 show wS (Ze0 [some (.tup (a.map .int)), some (.int n)] H) _
 unfold Ze0
 fail "g"
 refine Zb1 (fun d => match d with | .int x => decide (x ≠ n) | _ => true) (fun H' => H' = H) (fun _ j => Zfz) _ (fun y hy H2 j => ?_) _ rfl fun H2 j => ?_
 ·obtain ⟨z, hz, rfl⟩ := Xj.mp hy
  subst j
  fail "g"
  refine ⟨?_, rfl⟩
  by_cases e : z = n <;> simp [e]
 ·subst j
  have ef : ((a.map D.int).filter fun d => match d with | .int x => decide (x ≠ n) | _ => true) = (a.filter fun x => decide (x ≠ n)).map .int := by
   rw [Wbh]
   rfl
  rw [ef]
  refine ⟨by have := Waj (fun x => decide (x ≠ n)) a; simp at this ⊢; omega, ?_⟩
  fail "g"
  exact q _ (Fm.app _)
theorem Yb3 {M : Nat} {a b : List Int} (ha : R M a) (hb : R M b) (hM : M ≤ 8) (q : ∀ H', Fm [] H H' -> Q (Znj (Zln a b)) H') : wE (Zq8 [Za1 a, Za1 b] H) Q := by
 have la := ha.len
 have lb := hb.len
 refine Za2 rfl ?_
 show wS (Zla [some (.tup (a.map .int)), some (.tup (b.map .int)), none, none] H) _
 unfold Zla
 fail "g"
 refine Znl ?_
 fail "g"
 refine Zby (fun d t σ H' => ∃ (pre r : List Int) (z3 : Option D), b = pre ++ r ∧ t = r.map .int ∧ pre.any (fun x => decide (-x ∈ a)) = false ∧ H'[H.length]? = some (.lst ((a ++ pre.filter fun x => decide (x ∉ a)).map .int)) ∧ Fm [] H H' ∧ σ = [some (.tup (a.map .int)), some (.tup (b.map .int)), some (.ref H.length), z3]) (fun _ _ _ _ _ => Zfz) (fun d x t σ H1 ⟨pre, r, z3, i1, i2, i3, i4, i5, i6⟩ => ?_) (fun d σ H1 ⟨pre, r, z3, i1, i2, i3, i4, i5, i6⟩ => ?_) _ [] _ _ ⟨[], b, _, rfl, rfl, rfl, by simp, Fm.app _, rfl⟩
 ·subst i6
  cases r with
  | nil => cases i2
  | cons l r =>
   obtain ⟨rfl, rfl⟩ := Way.inj i2
   fail "i"
   refine Zxb ?_
   fail "g"
   refine ⟨fun z => ?_, fun z => ?_⟩
   ·fail "g"
    have : Znj (Zln a b) = .non := by
     unfold Zln
     rw [if_pos (by rw [i1]; simp at z; simp [z])]; rfl
    rw [← this]
    exact q _ i5
   ·fail "i"
    refine Zr5 ?_
    fail "g"
    have an : (pre ++ [l]).any (fun x => decide (-x ∈ a)) = false := by rw [List.any_append, i3]; simp at z ⊢; exact z
    have lp : pre.length ≤ 8 := by rw [i1] at lb; simp at lb; omega
    refine ⟨fun y => ?_, fun y => ?_⟩
    ·fail "g"
     refine ⟨isl i4, ?_⟩
     fail "g"
     refine Zgv i4 (by have := Waj (fun x => decide (x ∉ a)) pre; simp at this ⊢; omega) ?_
     fail "g"
     refine ⟨pre ++ [l], r, _, by rw [i1]; simp, rfl, an, ?_, i5.new (Fm.set (S := [H.length]) (by simp)) (fun q hq _ => by simp at hq; subst hq; exact Xc _), rfl⟩
     rw [Zpg i4]
     have y : l ∉ a := by simpa using y
     simp [Wby, y]
    ·fail "g"
     refine ⟨pre ++ [l], r, _, by rw [i1]; simp, rfl, an, ?_, i5, rfl⟩
     rw [i4]
     have y : l ∈ a := by simpa using y
     simp [Wby, y]
 ·subst i6
  cases r with
  | cons l r => cases i2
  | nil =>
   rw [Xu] at i1
   subst i1
   fail "g"
   have hj := R.join0 ha hb i3
   refine Zr9 i4 (by have := hj.len; omega) hj.nd ?_
   fail "g"
   have : Znj (Zln a b) = .tup ((Zco (a ++ b.filter fun x => decide (x ∉ a))).map .int) := by
    unfold Zln
    rw [if_neg (by rw [i3]; simp)]; rfl
   rw [← this]
   exact q _ (i5.trans (Fm.app _))
theorem Ztx {M : Nat} {a b : List Int} {n : Int} (ha : R M a) (hb : R M b) (hM : M ≤ 8) (q : ∀ H', Fm [] H H' -> Q (Znj (Zep a b n)) H') : wE (Zkd [Za1 a, Za1 b, .int n] H) Q := by
 have la := ha.len
 have lb := hb.len
 refine Za2 rfl ?_
 show wS (Zge [some (.tup (a.map .int)), some (.tup (b.map .int)), some (.int n)] H) _
 unfold Zge
 have no : (n ∉ a ∨ -n ∉ b) -> Q .non H := fun h => by
  have e : Znj (Zep a b n) = .non := by unfold Zep; rw [if_pos h]; rfl
  rw [← e]; exact q _ Fm.refl
 fail "i"
 refine Zr5 ?_
 fail "g"
 refine ⟨fun z => ?_, fun z => ?_⟩
 ·fail "g"
  exact no (.inl (by simpa using z))
 ·fail "g"
  refine Zr5 ?_
  fail "g"
  refine ⟨fun y => ?_, fun y => ?_⟩
  ·fail "g"
   exact no (.inr (by simpa using y))
  ·fail "g"
   have h : n ∈ a ∧ -n ∈ b := ⟨by simpa using z, by simpa using y⟩
   refine Zk5 (a := a) (by omega) fun H1 x1 => ?_
   fail "g"
   refine Zk5 (a := b) (by omega) fun H2 x2 => ?_
   fail "g"
   refine Yb3 (ha.sub Wbu) (hb.sub Wbu) hM fun H3 x3 => ?_
   rw [← Zjk a b n h]
   fail "g"
   exact q _ ((x1.trans x2).trans x3)
nonrec def Zf5 (n : Int) : List Int -> List Int -> Option (List Int)
 | zs, [] => some zs
 | zs, x :: r => if Zas x = n then Zf5 n zs r else if -x ∈ zs then none else Zf5 n (if x ∈ zs then zs else zs ++ [x]) r
theorem Zv0 {M : Nat} {a : List Int} {n : Int} (ha : R M a) (h1 : 1 ≤ n) (hn : n ∈ a) (b : List Int) : ∀ (a2 a1 : List Int), a = a1 ++ a2 -> Zf5 n (a1.filter fun x => decide (x ≠ n)) (a2 ++ b) = Zf5 n (a.filter fun x => decide (x ≠ n)) b
 | [], a1, e => by rw [Xu] at e; subst e; rfl
 | x :: a2, a1, e => by
  have en : Zas n = n := by unfold Zas; split <;> omega
  have hx : x ∈ a := by rw [e]; simp
  have e' : a = (a1 ++ [x]) ++ a2 := by rw [e]; simp
  have ih := Zv0 ha h1 hn b a2 (a1 ++ [x]) e'
  rw [Wcf, Zf5]
  rw [Wby] at ih
  split
  ·rename_i z
   have : x = n := ha.inj hx hn (by rw [z, en])
   simpa [this] using ih
  ·rename_i z
   have xn : x ≠ n := fun y => z (by rw [y]; exact en)
   have s1 : ∀ y, y ∈ a1.filter (fun x => decide (x ≠ n)) -> y ∈ a := fun y hy => by rw [e]; exact Wal _ (Wac.mp hy).1
   rw [if_neg (fun y => by
    have := ha.inj (s1 _ y) hx (Znc x)
    have := (ha.rg x hx).1
    unfold Zas at this
    split at this <;> omega)]
   rw [if_neg (fun y => by
    have nd := ha.nd
    rw [e, Wad, Wbj] at nd
    exact nd.2.2 (Zas x) (Xj.mpr ⟨x, (Wac.mp y).1, rfl⟩) (Zas x) (by simp) rfl)]
   simpa [xn] using ih
theorem Zwf {M : Nat} {a b : List Int} {n : Int} (hb : R M b) (h1 : 1 ≤ n) (hn : -n ∈ b) : ∀ (b2 b1 : List Int), b = b1 ++ b2 →
  Zf5 n (a ++ (b1.filter fun x => decide (x ≠ -n)).filter fun x => decide (x ∉ a)) b2 = if (b2.filter fun x => decide (x ≠ -n)).any (fun x => decide (-x ∈ a)) = true then none else some (a ++ (b.filter fun x => decide (x ≠ -n)).filter fun x => decide (x ∉ a))
 | [], b1, e => by rw [Xu] at e; subst e; rfl
 | x :: b2, b1, e => by
  have en : Zas (-n) = n := by unfold Zas; split <;> omega
  have hx : x ∈ b := by rw [e]; simp
  have e' : b = (b1 ++ [x]) ++ b2 := by rw [e]; simp
  have ih := Zwf (a := a) hb h1 hn b2 (b1 ++ [x]) e'
  rw [Zf5]
  rw [Wby, Wby] at ih
  split
  ·rename_i z
   have : x = -n := hb.inj hx hn (by rw [z, en])
   simpa [this] using ih
  ·rename_i z
   have xn : x ≠ -n := fun y => z (by rw [y]; exact en)
   have s1 : ∀ y, y ∈ (b1.filter fun x => decide (x ≠ -n)).filter (fun x => decide (x ∉ a)) -> y ∈ b1 := fun y hy => (Wac.mp (Wac.mp hy).1).1
   have c1 : (-x ∈ a ++ (b1.filter fun x => decide (x ≠ -n)).filter fun x => decide (x ∉ a)) ↔ -x ∈ a := by
    rw [Xs]
    refine ⟨fun y => y.elim id fun y => ?_, .inl⟩
    have := hb.inj (by rw [e]; exact Wal _ (s1 _ y)) hx (Znc x)
    have := (hb.rg x hx).1
    unfold Zas at this
    split at this <;> omega
   have c2 : (x ∈ a ++ (b1.filter fun x => decide (x ≠ -n)).filter fun x => decide (x ∉ a)) ↔ x ∈ a := by
    rw [Xs]
    refine ⟨fun y => y.elim id fun y => ?_, .inl⟩
    have nd := hb.nd
    rw [e, Wad, Wbj] at nd
    exact absurd rfl (nd.2.2 (Zas x) (Xj.mpr ⟨x, s1 _ y, rfl⟩) (Zas x) (by simp))
   by_cases y : -x ∈ a
   ·rw [if_pos (c1.mpr y), if_pos (by simp [xn, y])]
   ·rw [if_neg (fun w => y (c1.mp w))]
    by_cases w : x ∈ a
    ·rw [if_pos (c2.mpr w)]
     simpa [xn, y, w] using ih
    ·rw [if_neg (fun v => w (c2.mp v))]
     simpa [xn, y, w] using ih
theorem Zql {M : Nat} {a b : List Int} {n : Int} (ha : R M a) (hb : R M b) (h1 : 1 ≤ n) (hn : n ∈ a) (hm : -n ∈ b) : (Zf5 n [] (a ++ b)).map Zco = Zep a b n := by
 have e1 := Zv0 ha h1 hn b a [] rfl
 have e2 := Zwf (a := a.filter fun x => decide (x ≠ n)) hb h1 hm b [] rfl
 rw [show ([] : List Int).filter (fun x => decide (x ≠ n)) = [] from rfl] at e1
 rw [e1]
 rw [show (([] : List Int).filter (fun x => decide (x ≠ -n))).filter (fun x => decide (x ∉ a.filter fun x => decide (x ≠ n))) = [] from rfl, Xu] at e2
 rw [e2]
 rw [Zjk a b n ⟨hn, hm⟩]
 unfold Zln
 split <;> rfl
theorem Zm0 {M : Nat} {n : Int} : ∀ (xs zs : List Int), (∀ x ∈ xs, 1 ≤ Zas x ∧ Zas x ≤ M) -> R M zs -> ∀ ys, Zf5 n zs xs = some ys -> R M ys
 | [], zs, _, hz, ys, e => by cases e; exact hz
 | x :: r, zs, hx, hz, ys, e => by
  rw [Zf5] at e
  split at e
  ·exact Zm0 r zs (fun y hy => hx y (by simp [hy])) hz ys e
  ·split at e
   ·cases e
   ·rename_i h1 h2
    refine Zm0 r _ (fun y hy => hx y (by simp [hy])) ?_ ys e
    split
    ·exact hz
    ·rename_i h3
     refine ⟨?_, fun y hy => ?_⟩
     ·rw [Wad, Wbj]
      refine ⟨hz.nd, by simp, fun u hu v hv e => ?_⟩
      obtain ⟨y, hy, rfl⟩ := Xj.mp hu
      simp at hv
      subst hv
      rcases Zm3 e with z | z
      ·exact h3 (z ▸ hy)
      ·exact h2 (z ▸ hy)
     ·rcases Xs.mp hy with z | z
      ·exact hz.rg y z
      ·simp at z; subst z; exact hx y (by simp)
variable {σ : SD} {H : HD} {Q : D -> HD -> Prop}
nonrec def kvT (x : Int) : Int × D := (x, .bl true)
theorem Zq5 (k : Int) : ∀ zs : List Int, (Zmj (zs.map kvT) k).isSome = decide (k ∈ zs)
 | [] => rfl
 | z :: r => by
  have ih := Zq5 k r
  unfold Zmj at ih ⊢
  rw [Xr]
  by_cases e : z = k
  ·subst e
   rw [Wct (by simp [kvT])]
   simp
  ·rw [Wcu (by simp [kvT, e]), ih]
   have : ¬ k = z := fun w => e w.symm
   simp [this]
theorem Ybt (k : Int) (zs : List Int) : Ztf (zs.map kvT) k (.bl true) = (if k ∈ zs then zs else zs ++ [k]).map kvT := by
 unfold Ztf
 by_cases h : k ∈ zs
 ·rw [if_pos (by rw [Wej, Wau]; exact ⟨k, h, by simp [kvT]⟩), if_pos h, Wbc]
  refine Weq fun x _ => ?_
  show (if x = k then (x, D.bl true) else kvT x) = kvT x
  split <;> rfl
 ·have hn : ¬ ((zs.map kvT).any (fun p => decide (p.1 = k)) = true) := by
   rw [Wej, Wau]
   rintro ⟨x, hx, e⟩
   have e : x = k := of_decide_eq_true e
   subst e
   exact h hx
  rw [if_neg hn, if_neg h, Wad]
  rfl
theorem w_iin {n : Nat} {kvs : List (Int × D)} {k : Int} (g : H[n]? = some (.dci kvs)) (q : Q (.bl (Zmj kvs k).isSome) H) : wE (iinD (.int k) (.ref n) H) Q := ⟨_, _, by simp [iinD, dciD, g], q⟩
theorem Yab {n : Nat} {kvs : List (Int × D)} {k : Int} {v : D} {Z : HD -> Prop} (g : H[n]? = some (.dci kvs)) (h : kvs.length ≤ 1000) (q : Z (H.set n (.dci (Ztf kvs k v)))) : wH (Zs8 (.ref n) (.int k) v H) Z := by
 refine ⟨_, ?_, q⟩
 have sz := Uae
 simp only [Zs8, g]
 exact if_pos (by omega)
theorem w_edi (q : Q (.ref H.length) (H ++ [.dci []])) : wE (eDI σ H) Q := ⟨_, _, rfl, q⟩
theorem Ziq {M : Nat} {a b : List Int} {n : Int} (ha : R M a) (hb : R M b) (hM : M ≤ 8) (h1 : 1 ≤ n) (q : ∀ H', Fm [] H H' -> Q (Znj (Zep a b n)) H') : wE (Zdj [Za1 a, Za1 b, .int n] H) Q := by
 have la := ha.len
 have lb := hb.len
 refine Za2 rfl ?_
 show wS (Zcm [some (.tup (a.map .int)), some (.tup (b.map .int)), some (.int n), none, none] H) _
 unfold Zcm
 have no : (n ∉ a ∨ -n ∉ b) -> Q .non H := fun h => by
  have e : Znj (Zep a b n) = .non := by unfold Zep; rw [if_pos h]; rfl
  rw [← e]; exact q _ Fm.refl
 fail "i"
 refine Zr5 ?_
 fail "g"
 refine ⟨fun z => ?_, fun z => ?_⟩
 ·fail "g"
  exact no (.inl (by simpa using z))
 fail "g"
 refine Zr5 ?_
 fail "g"
 refine ⟨fun y => ?_, fun y => ?_⟩
 ·fail "g"
  exact no (.inr (by simpa using y))
 fail "g"
 refine w_edi ?_
 have hn : n ∈ a := by simpa using z
 have hm : -n ∈ b := by simpa using y
 have fj := Zql ha hb h1 hn hm
 fail "g"
 rw [← Wad]
 refine Zby (fun d t σ H' => ∃ (pre r zs : List Int) (z4 : Option D), a ++ b = pre ++ r ∧ t = r.map .int ∧ Zf5 n zs r = Zf5 n [] (a ++ b) ∧ R M zs ∧ H'[H.length]? = some (.dci (zs.map kvT)) ∧ Fm [] H H' ∧ σ = [some (.tup (a.map .int)), some (.tup (b.map .int)), some (.int n), some (.ref H.length), z4]) (fun _ _ _ _ _ => Zfz) (fun d x t σ H1 ⟨pre, r, zs, z4, i1, i2, i3, i4, i5, i6, i7⟩ => ?_) (fun d σ H1 ⟨pre, r, zs, z4, i1, i2, i3, i4, i5, i6, i7⟩ => ?_) _ [] _ _ ⟨[], a ++ b, [], _, rfl, rfl, rfl, ⟨.nil, by simp⟩, last, Fm.app _, rfl⟩
 ·subst i7
  cases r with
  | nil => cases i2
  | cons l r =>
   obtain ⟨rfl, rfl⟩ := Way.inj i2
   have hl : 1 ≤ Zas l ∧ Zas l ≤ M := by
    have : l ∈ a ++ b := by rw [i1]; simp
    rcases Xs.mp this with w | w
    ·exact ha.rg l w
    ·exact hb.rg l w
   have i1' : a ++ b = (pre ++ [l]) ++ r := by rw [i1]; simp
   rw [Zf5] at i3
   fail "i"
   fail "g"
   refine ⟨fun w => ?_, fun w => ?_⟩
   ·have w : Zas l ≠ n := by simpa using w
    rw [if_neg w] at i3
    fail "i"
    refine w_iin i5 ?_
    rw [Zq5]
    fail "g"
    refine ⟨fun v => ?_, fun v => ?_⟩
    ·fail "g"
     rw [if_pos (of_decide_eq_true v)] at i3
     rw [← i3] at fj
     have e : Znj (Zep a b n) = .non := by rw [← fj]; rfl
     rw [← e]; exact q _ i6
    ·fail "g"
     rw [if_neg (of_decide_eq_false v)] at i3
     refine Yab i5 (by have := i4.len; simp; omega) ?_
     rw [Ybt]
     fail "g"
     refine ⟨pre ++ [l], r, _, _, i1', rfl, i3, ?_, Zpg i5, i6.new (Fm.set (S := [H.length]) (by simp)) (fun q hq _ => by simp at hq; subst hq; exact Xc _), rfl⟩
     have := Zm0 (M := M) (n := n) [l] zs (by simpa using hl) i4 (if l ∈ zs then zs else zs ++ [l]) (by rw [Zf5, if_neg w, if_neg (of_decide_eq_false v)]; rfl)
     exact this
   ·have w : Zas l = n := by simpa using w
    rw [if_pos w] at i3
    fail "g"
    exact ⟨pre ++ [l], r, zs, _, i1', rfl, i3, i4, i5, i6, rfl⟩
 ·subst i7
  cases r with
  | cons l r => cases i2
  | nil =>
   rw [← i3] at fj
   have e : Znj (Zep a b n) = .tup ((Zco zs).map .int) := by rw [← fj]; rfl
   fail "g"
   refine Ztn i5 (by have := i4.len; omega) i4.nd ?_
   fail "g"
   rw [← e]
   exact q _ (i6.trans (Fm.app _))
nonrec def nms (ks : List D) : List Int := ((Wcw ks.length).map fun k : Nat => (k : Int) + 1).filter fun n => !Ze5 ks n
theorem Zmw {ks : List D} {n : Int} : n ∈ nms ks ↔ 1 ≤ n ∧ n ≤ ks.length ∧ Ze5 ks n = false := by
 unfold nms
 rw [Wac, Xj]
 constructor
 ·rintro ⟨⟨k, hk, rfl⟩, h⟩
  rw [War] at hk
  exact ⟨by omega, by omega, by simpa using h⟩
 ·rintro ⟨h1, h2, h3⟩
  exact ⟨⟨(n - 1).toNat, by rw [War]; omega, by omega⟩, by rw [h3]; rfl⟩
theorem Zqp {ks : List D} {rss : List (List Int)} (hk : ∀ d ∈ ks, Zbx d) (h8 : ks.length ≤ 8) (q : Q (.ref H.length) (H ++ [.lst ((nms ks).map .int)])) :
  wE (eLC (iR1 (Zaa (eCB Zb8 (Zaa (eOp ixD (Zac 0) (eC (.int 0))) Zae)) Zae)) [0] (tOf (eOp neD (eOp ixD (eOp ixD (Zac 1) (eC (.int 0))) (Zac 0)) (eC (.str "some")))) (eOp Zbb (Zac 0) (eC (.int 1))) (some (Zah ks rss) :: σ) H) Q := by
 fail "g"
 refine ⟨_, rfl, ⟨by omega, by omega⟩, ?_⟩
 rw [Xy]
 have ab : ∀ k : Nat, Zas ((k : Int) + 1) = (k : Int) + 1 := fun k => by unfold Zas; split <;> omega
 refine Zxr (fun d => match d with | .int k => !Ze5 ks (k + 1) | _ => false) (fun d => match d with | .int k => .int (k + 1) | d => d) (fun H' => H' = H) (fun _ j => Zfz) _ (fun y hy H2 j => ?_) (fun y hy _ H2 j => ?_) _ rfl fun H2 j => ?_
 ·simp only [Zaq, Xj, War] at hy
  obtain ⟨k, hk', rfl⟩ := hy
  rw [Wfe]
  subst j
  show wT (tOf _ (some (.int (k : Int)) :: [some (Zah ks rss)]) H2) _
  fail "g"
  have e := Zks (x := (k : Int) + 1) hk (by rw [ab]; omega)
  rw [ab, show (k : Int) + 1 - 1 = k by omega] at e
  refine w_ixT e ?_
  fail "g"
  refine Zng ?_
  exact ⟨_, rfl, rfl, rfl⟩
 ·simp only [Zaq, Xj, War] at hy
  obtain ⟨k, hk', rfl⟩ := hy
  subst j
  show wE (eOp Zbb (Zac 0) (eC (.int 1)) (some (.int (0 + (k : Int))) :: [some (Zah ks rss)]) H2) _
  fail "g"
  exact ⟨rfl, rfl⟩
 ·subst j
  have ef : ((Zaq 0 ks.length).filter fun d => match d with | .int k => !Ze5 ks (k + 1) | _ => false).map (fun d => match d with | .int k => .int (k + 1) | d => d) = (nms ks).map D.int := by
   unfold Zaq nms
   rw [Wbh, Wbc, Wbh, Wbc]
   simp only [Function.comp_def, Wfe]
  rw [ef]
  refine ⟨?_, q⟩
  have := Waj (fun n => !Ze5 ks n) ((Wcw ks.length).map fun k : Nat => (k : Int) + 1)
  unfold nms
  simp at this ⊢
  omega
variable {σ : SD} {H : HD} {Q : D -> HD -> Prop}
theorem Zjm {d : D} {s : Str} (h : isS d s = true) : d = .str s := by
 cases d with
 | str a => rw [eq_of_beq (show (a == s) = true from h)]
 | _ => cases h
theorem Zj5 {s : Str} : isS (.str s) s = true := beq_self_eq_true s
theorem Zcx {b : D} {m : Nat} (h : Zff b m = true) : ∃ i : Nat, b = .int i ∧ i < m := by
 cases b with
 | int i =>
  rw [show Zff (.int i) m = (decide (0 ≤ i) && decide (i < (m : Int))) from rfl, Xv, decide_eq_true_iff, decide_eq_true_iff] at h
  exact ⟨i.toNat, by rw [Wbk h.1], by omega⟩
 | _ => cases h
theorem Zo7 {i : Int} {m : Nat} (h : Zff (.int i) m = false) : ¬ (0 ≤ i ∧ i < m) := by
 rintro ⟨h1, h2⟩
 rw [show Zff (.int i) m = (decide (0 ≤ i) && decide (i < (m : Int))) from rfl, decide_eq_true h1, decide_eq_true h2] at h
 cases h
theorem Zo2 {ks : List D} {d : D} (h : Zhq ks d = true) : ∃ n, d = .int n ∧ (1 ≤ n ∧ n ≤ ks.length) ∧ Ze5 ks n = false := by
 cases d with
 | int n =>
  rw [show Zhq ks (.int n) = (decide (1 ≤ n) && decide (n ≤ (ks.length : Int)) && !Ze5 ks n) from rfl, Xv, Xv, decide_eq_true_iff, decide_eq_true_iff] at h
  exact ⟨n, rfl, h.1, by simpa using h.2⟩
 | _ => cases h
section
variable {ks : List D} {rss made : List (List Int)} {a b c e : D} {r : List D}
theorem Zgh (h2 : ∀ s b, r ≠ [.str s, b]) (h4 : ∀ s i j n, r ≠ [.str s, .int i, .int j, .int n]) : stp ks rss made (.tup r) = none := by
 unfold stp
 split
 ·rename_i e; exact absurd (D.tup.inj e) (h2 _ _)
 ·rename_i e; exact absurd (D.tup.inj e) (h4 _ _ _ _)
 ·rfl
theorem Zih {s : Str} {b : D} : stp ks rss made (.tup [.str s, b]) = if s = "less" then (match b with
   | .int i => if 0 ≤ i ∧ i < made.length then some (Zde ks (made.getD i.toNat [])) else none
   | _ => none)
  else if s = "term" then Zer ks rss b else none := rfl
theorem Zhv {s : Str} {i j n : Int} : stp ks rss made (.tup [.str s, .int i, .int j, .int n]) = if s = "joined" ∧ (0 ≤ i ∧ i < made.length) ∧ (0 ≤ j ∧ j < made.length) ∧ (1 ≤ n ∧ n ≤ ks.length) ∧ Ze5 ks n = false then Zep (made.getD i.toNat []) (made.getD j.toNat []) n else none := rfl
theorem jl : ¬ (("joined" : Str) = "less") := by decide
theorem lj : ¬ (("less" : Str) = "joined") := by decide
theorem lr : ¬ (("term" : Str) = "less") := by decide
theorem rj : ¬ (("term" : Str) = "joined") := by decide
theorem Zwk (hl : r.length ≠ 1) : stp ks rss made (.tup (.str "less" :: r)) = none := by
 by_cases h : ∃ s i j n, (.str "less" :: r) = [.str s, .int i, .int j, .int n]
 ·obtain ⟨s, i, j, n, h⟩ := h
  rw [h, Zhv]
  have : s = "less" := by have := (Way.inj h).1; cases this; rfl
  rw [if_neg (fun z => lj (this ▸ z.1))]
 ·exact Zgh (fun s i z => hl (by have := (Way.inj z).2; rw [this]; rfl)) (fun s i j n z => h ⟨s, i, j, n, z⟩)
theorem Zvm (hb : Zff b made.length = false) : stp ks rss made (.tup [.str "less", b]) = none := by
 rw [Zih, if_pos rfl]
 cases b with
 | int i => exact if_neg (Zo7 hb)
 | _ => rfl
theorem Zoo {i : Nat} (hi : i < made.length) : stp ks rss made (.tup [.str "less", .int i]) = some (Zde ks made[i]) := by
 rw [Zih, if_pos rfl]
 show (if (0 : Int) ≤ (i : Int) ∧ (i : Int) < made.length then some (Zde ks (made.getD (i : Int).toNat [])) else none) = _
 rw [if_pos ⟨by omega, by omega⟩, Xy]
 simp [hi]
theorem Zwt (hl : r.length ≠ 3) : stp ks rss made (.tup (.str "joined" :: r)) = none := by
 by_cases h : ∃ s i, (.str "joined" :: r) = [.str s, i]
 ·obtain ⟨s, i, h⟩ := h
  have : s = "joined" := by have := (Way.inj h).1; cases this; rfl
  subst this
  rw [h, Zih, if_neg jl, if_neg (fun z => rj z.symm)]
 ·exact Zgh (fun s i z => h ⟨s, i, z⟩) (fun s i j n z => hl (by have := (Way.inj z).2; rw [this]; rfl))
theorem Zv3 (h : (Zff b made.length && Zff c made.length && Zhq ks e) = false) : stp ks rss made (.tup [.str "joined", b, c, e]) = none := by
 by_cases h3 : ∃ i j n, b = .int i ∧ c = .int j ∧ e = .int n
 ·obtain ⟨i, j, n, rfl, rfl, rfl⟩ := h3
  rw [Zhv, if_neg]
  rintro ⟨_, z1, z2, z3, z4⟩
  have e1 : Zff (.int i) made.length = true := by show (decide (0 ≤ i) && decide (i < (made.length : Int))) = true; rw [decide_eq_true z1.1, decide_eq_true z1.2]; rfl
  have e2 : Zff (.int j) made.length = true := by show (decide (0 ≤ j) && decide (j < (made.length : Int))) = true; rw [decide_eq_true z2.1, decide_eq_true z2.2]; rfl
  have e3 : Zhq ks (.int n) = true := by show (decide (1 ≤ n) && decide (n ≤ (ks.length : Int)) && !Ze5 ks n) = true; rw [decide_eq_true z3.1, decide_eq_true z3.2, z4]; rfl
  rw [e1, e2, e3] at h; cases h
 ·exact Zgh (by rintro s i z; cases z) (fun s i j n z => h3 (by cases z; exact ⟨i, j, n, rfl, rfl, rfl⟩))
theorem Zr8 {i j : Nat} {n : Int} (hi : i < made.length) (hj : j < made.length) (hn : 1 ≤ n ∧ n ≤ ks.length) (ho : Ze5 ks n = false) : stp ks rss made (.tup [.str "joined", .int i, .int j, .int n]) = Zep made[i] made[j] n := by
 rw [Zhv, if_pos ⟨rfl, ⟨by omega, by omega⟩, ⟨by omega, by omega⟩, hn, ho⟩, Xy, Xy]
 simp [hi, hj]
theorem Zol (h1 : isS a "less" = false) (h2 : isS a "joined" = false) (h : isS a "term" = false ∨ r.length ≠ 1) : stp ks rss made (.tup (a :: r)) = none := by
 by_cases h3 : ∃ s, a = .str s
 ·obtain ⟨s, rfl⟩ := h3
  have n1 : s ≠ "less" := fun z => by subst z; rw [Zj5] at h1; cases h1
  have n2 : s ≠ "joined" := fun z => by subst z; rw [Zj5] at h2; cases h2
  by_cases h4 : ∃ i, r = [i]
  ·obtain ⟨i, rfl⟩ := h4
   have n3 : s ≠ "term" := fun z => by
    subst z
    rcases h with h | h
    ·rw [Zj5] at h; cases h
    ·exact h rfl
   rw [Zih, if_neg n1, if_neg n3]
  ·by_cases h5 : ∃ i j n, r = [.int i, .int j, .int n]
   ·obtain ⟨i, j, n, rfl⟩ := h5
    rw [Zhv, if_neg (fun z => n2 z.1)]
   ·exact Zgh (fun s i z => h4 ⟨i, (Way.inj z).2⟩) (fun s i j n z => h5 ⟨i, j, n, (Way.inj z).2⟩)
 ·exact Zgh (fun s i z => h3 ⟨s, (Way.inj z).1⟩) (fun s i j n z => h3 ⟨s, (Way.inj z).1⟩)
theorem Zsx : stp ks rss made (.tup [.str "term", b]) = Zer ks rss b := by
 rw [Zih, if_neg lr, if_pos rfl]
end
theorem Ts.head {S : List Nat} {k w : Nat} {a : D} {r : List D} (h : Ts S H k w (a :: r)) : (∃ w', T S H k w' a) ∧ ∃ w', Ts S H k w' r := by
 obtain ⟨x, y, t1, t2, _⟩ := h.two
 exact ⟨⟨x, t1⟩, ⟨y, t2⟩⟩
theorem Zhd {made : List (List Int)} {i : Nat} (h : i < made.length) : atI (made.map Za1) (i : Int) = some (Za1 made[i]) := Zef (by simp [h])
theorem Zuo {S : List Nat} {k w pm : Nat} {ks : List D} {rss made : List (List Int)} {r : List D} (hk : ∀ d ∈ ks, Zbx d) (h8 : ks.length ≤ 8) (hm : ∀ ls ∈ made, R ks.length ls) (g : H[pm]? = some (.lst (made.map Za1))) (h : Ts S H k w (.str "less" :: r)) (h30 : k ≤ 30)
  (q : Q (Znj (stp ks rss made (.tup (.str "less" :: r)))) H) : wE (Zdr [.tup ks, .str "some", .ref pm, .tup (.str "less" :: r)] H) Q := by
 refine Za2 rfl ?_
 show wS (Zbt [some (.tup ks), some (.str "some"), some (.ref pm), some (.tup (.str "less" :: r))] H) _
 unfold Zbt
 fail "i"
 fail "g"
 refine ⟨fun z => ?_, fun z => ?_⟩
 ·fail "g"
  rw [Zwk (fun y => by simp [y] at z)] at q
  exact q
 ·match r, h, q, z with
  | [b], h, q, z =>
   obtain ⟨w1, tb⟩ := h.head.2.elim fun _ x => x.head.1
   fail "g"
   rw [Xk]
   refine Zmz tb h30 ?_
   fail "g"
   cases y : Zff b (made.length : Int) with
   | false => fail "g"; rw [Zvm y] at q; exact q
   | true =>
    obtain ⟨i, rfl, hi⟩ := Zcx y
    rw [Zoo hi] at q
    fail "g"
    refine w_ixR g (Zhd hi) ?_
    fail "g"
    refine Zpp hk h8 (hm _ (Wag hi)) ?_
    fail "g"
    exact q
  | [], h, q, z => simp at z
  | b :: c :: s, h, q, z => simp at z; omega
theorem Zpb {S : List Nat} {k w pm : Nat} {ks : List D} {rss made : List (List Int)} {r : List D} (hk : ∀ d ∈ ks, Zbx d) (h8 : ks.length ≤ 8) (hm : ∀ ls ∈ made, R ks.length ls) (g : H[pm]? = some (.lst (made.map Za1))) (h : Ts S H k w (.str "joined" :: r)) (h30 : k ≤ 30)
  (q : ∀ H', Fm [] H H' → Q (Znj (stp ks rss made (.tup (.str "joined" :: r)))) H') : wE (Zcq [.tup ks, .str "some", .ref pm, .tup (.str "joined" :: r)] H) Q := by
 refine Za2 rfl ?_
 show wS (Zbg [some (.tup ks), some (.str "some"), some (.ref pm), some (.tup (.str "joined" :: r))] H) _
 unfold Zbg
 fail "i"
 fail "g"
 refine ⟨fun z => ?_, fun z => ?_⟩
 ·fail "g"
  have q := q H Fm.refl
  rw [Zwt (fun y => by simp [y] at z)] at q
  exact q
 ·match r, h, q, z with
  | [b, c, e], h, q, z =>
   obtain ⟨w1, hb⟩ := h.head.2
   obtain ⟨w2, tb⟩ := hb.head.1
   obtain ⟨w3, hc⟩ := hb.head.2
   obtain ⟨w4, tc⟩ := hc.head.1
   obtain ⟨w5, he⟩ := hc.head.2
   obtain ⟨w6, te⟩ := he.head.1
   have no : (Zff b made.length && Zff c made.length && Zhq ks e) = false -> Q .non H := fun y => by
    have q := q H Fm.refl
    rw [Zv3 y] at q
    exact q
   fail "g"
   rw [Xk]
   refine Zmz tb h30 ?_
   fail "g"
   cases y : Zff b (made.length : Int) with
   | false => fail "g"; exact no (by rw [y]; rfl)
   | true =>
    fail "g"
    rw [Xk]
    refine Zmz tc h30 ?_
    fail "g"
    cases x : Zff c (made.length : Int) with
    | false => fail "g"; exact no (by rw [y, x]; rfl)
    | true =>
     fail "i"
     refine Znr hk te h30 ?_
     fail "g"
     cases v : Zhq ks e with
     | false => fail "g"; exact no (by rw [y, x, v]; rfl)
     | true =>
      obtain ⟨i, rfl, hi⟩ := Zcx y
      obtain ⟨j, rfl, hj⟩ := Zcx x
      obtain ⟨n, rfl, hn, ho⟩ := Zo2 v
      rw [Zr8 hi hj hn ho] at q
      fail "g"
      refine w_ixR g (Zhd hi) ?_
      fail "g"
      refine w_ixR g (Zhd hj) ?_
      fail "g"
      refine Ztx (hm _ (Wag hi)) (hm _ (Wag hj)) h8 fun H1 x1 => ?_
      fail "g"
      exact q _ x1
  | [], h, q, z => simp at z
  | [b], h, q, z => simp at z
  | [b, c], h, q, z => simp at z
  | b :: c :: e :: f :: s, h, q, z => simp at z; omega
theorem Zqa {d : D} (h : ∀ ds, d ≠ .tup ds) : Zye d = false := by
 cases d with
 | tup ds => exact absurd rfl (h ds)
 | _ => rfl
theorem Zxt {S : List Nat} {k w : Nat} {m : Int} {ds : List D} (h : Ts S H k w ds) (hk : k ≤ 30) (q : Q (.bl (Zju m 0 ds)) H) : wE (Zhx [.int m, .tup ds] H) Q := by
 refine Za2 rfl ?_
 show wS (Zec [some (.int m), some (.tup ds), none, none] H) _
 unfold Zec
 fail "i"
 refine Zby (fun d t σ H' => H' = H ∧ (∃ w', Ts S H k w' t) ∧ ∃ (last : Int) (z : Option D), Zju m last t = Zju m 0 ds ∧ σ = [some (.int m), some (.tup ds), some (.int last), z]) (fun _ _ _ _ _ => Zfz) (fun d x t σ H1 ⟨e1, ⟨w', e2⟩, last, z, e3, e4⟩ => ?_) (fun d σ H1 ⟨e1, ⟨w', e2⟩, last, z, e3, e4⟩ => ?_) _ [] _ _ ⟨rfl, ⟨w, h⟩, 0, _, rfl, rfl⟩
 ·subst e1 e4
  obtain ⟨a, b, t1, t2, _⟩ := e2.two
  fail "i"
  refine Zkl t1 hk ?_
  rcases (show (∃ i, x = .int i) ∨ ∀ i, x ≠ .int i by cases x <;> simp) with ⟨i, rfl⟩ | hx
  ·rw [Zju] at e3
   unfold isI
   fail "g"
   refine ⟨fun h => ?_, fun h => ?_⟩
   ·have h1 := of_decide_eq_true h
    rw [decide_eq_false (by omega)] at e3
    simp only [Wcb] at e3
    rw [← e3] at q
    fail "g"
    exact q
   ·have h1 := of_decide_eq_false h
    fail "g"
    refine ⟨fun h => ?_, fun h => ?_⟩
    ·have h2 := of_decide_eq_true h
     rw [show decide (Zas i ≤ m) = false from decide_eq_false (by omega)] at e3
     simp only [Wdb, Wcb] at e3
     rw [← e3] at q
     fail "g"
     exact q
    ·have h2 := of_decide_eq_false h
     rw [decide_eq_true (show last < Zas i by omega), decide_eq_true (show Zas i ≤ m by omega)] at e3
     simp only [Wdf] at e3
     fail "g"
     exact ⟨rfl, ⟨b, t2⟩, Zas i, _, e3, rfl⟩
  ·have ef : isI x = false := by cases x <;> first | rfl | exact absurd rfl (hx _)
   have e5 : Zju m last (x :: t) = false := by cases x <;> first | rfl | exact absurd rfl (hx _)
   rw [ef]
   rw [e5] at e3
   rw [← e3] at q
   fail "g"
   exact q
 ·subst e1 e4
  rw [Zju] at e3
  rw [← e3] at q
  fail "g"
  exact q
theorem Zu8 {S : List Nat} {k w : Nat} {m : Int} {d : D} (h : T S H k w d) (hk : k ≤ 30) (hn : ∀ ds, d ≠ .tup ds) (q : Q (.bl false) H) : wE (Zhx [.int m, d] H) Q := by
 refine Za2 rfl ?_
 show wS (Zec [some (.int m), some d, none, none] H) _
 unfold Zec
 refine w_seq ?_
 refine w_if ?_
 fail "g"
 refine Zkv h hk ?_
 rw [Zqa hn]
 fail "g"
 exact q
theorem Zvn (d : D) : (∃ ds, d = .tup ds) ∨ ∀ ds, d ≠ .tup ds := by cases d <;> simp
theorem Ybz {p : Nat} {bs : List Bool} (g : H[p]? = some (.lst (bs.map .bl))) (q : Q (.bl (bs.any id)) H) : wE (Yb2 [.ref p] H) Q := ⟨_, _, by simp only [Yb2, g]; rw [Zup]; rfl, q⟩
theorem Zuc {row ls : List Int} (hl : row.length ≤ 1000) (q : ∀ H', Fm [] H H' -> Q (.bl (Zug row ls)) H') : wE (Zbq [Za1 row, Za1 ls] H) Q := by
 refine Za2 rfl ?_
 show wS (Zav [some (.tup (row.map .int)), some (.tup (ls.map .int))] H) _
 unfold Zav
 fail "g"
 refine Zj0 (fun d => .bl (decide (Zkp d ∈ ls))) (fun H' => H' = H) (fun _ _ => Zfz) _ (fun y hy H2 j => ?_) _ rfl fun H2 j => ?_
 ·obtain ⟨z, hz, rfl⟩ := Xj.mp hy
  subst j
  fail "g"
  exact Zxb ⟨rfl, rfl⟩
 ·subst j
  refine ⟨by simp; omega, ?_⟩
  rw [show (row.map D.int).map (fun d => D.bl (decide (Zkp d ∈ ls))) = (row.map fun l => decide (l ∈ ls)).map D.bl by rw [Wbc, Wbc]; rfl]
  fail "g"
  refine Ybz last ?_
  rw [Wej]
  fail "g"
  exact q _ (Fm.app _)
theorem Znk {S : List Nat} {k w : Nat} {ks : List D} {rss made : List (List Int)} {a : D} {r : List D} (h8 : ks.length ≤ 8) (hr : ∀ ls ∈ rss, R ks.length ls) (h : Ts S H k w (a :: r)) (h30 : k ≤ 30) (n1 : isS a "less" = false) (n2 : isS a "joined" = false)
  (q : ∀ H', Fm [] H H' -> Q (Znj (stp ks rss made (.tup (a :: r)))) H') : wE (Zed [Zah ks rss, .tup (a :: r)] H) Q := by
 obtain ⟨w1, ta⟩ := h.head.1
 refine Za2 rfl ?_
 show wS (Zb2 [some (Zah ks rss), some (.tup (a :: r)), none] H) _
 unfold Zb2
 have q0 := q H Fm.refl
 fail "i"
 fail "g"
 refine ⟨fun z => ?_, fun z => ?_⟩
 ·fail "g"
  rw [Zol n1 n2 (.inr fun y => by simp [y] at z)] at q0
  exact q0
 ·match r, h, q, q0, z with
  | [b], h, q, q0, z =>
   obtain ⟨w1, tb⟩ := h.head.2.elim fun _ x => x.head.1
   fail "g"
   refine Zxz ta h30 (Zce (by decide)) ?_
   fail "g"
   cases y : isS a "term" with
   | false => fail "g"; rw [Zol n1 n2 (.inl y)] at q0; exact q0
   | true =>
    have := Zjm y
    subst this
    rw [Zsx] at q q0
    fail "g"
    rcases Zvn b with ⟨xs, rfl⟩ | hb
    ·refine Zxt tb.parts h30 ?_
     fail "g"
     cases x : Zju (ks.length : Int) 0 xs with
     | false =>
      have e : Zer ks rss (.tup xs) = none := if_neg (fun z => by rw [x] at z; exact absurd z.1 (by simp))
      rw [e] at q0
      fail "g"
      exact q0
     | true =>
      obtain ⟨e, u⟩ := Zgj x
      generalize hls : xs.map Zkp = ls at e u
      subst e
      fail "g"
      refine Zby (fun d t σ H' => ∃ (pre : List (List Int)) (rs : List (List Int)) (z2 : Option D), rss = pre ++ rs ∧ t = rs.map Za1 ∧ (pre.all fun row => Zug row ls) = true ∧ Fm [] H H' ∧ σ = [some (Zah ks rss), some (.tup [.str "term", Za1 ls]), z2]) (fun _ _ _ _ _ => Zfz) (fun d x t σ H1 ⟨pre, rs, z2, i1, i2, i3, i4, i5⟩ => ?_) (fun d σ H1 ⟨pre, rs, z2, i1, i2, i3, i4, i5⟩ => ?_) _ [] _ _ ⟨[], rss, _, rfl, rfl, rfl, Fm.refl, rfl⟩
      ·subst i5
       cases rs with
       | nil => cases i2
       | cons row rs =>
        obtain ⟨rfl, rfl⟩ := Way.inj i2
        have lr := (hr row (by rw [i1]; simp)).len
        fail "i"
        refine Zuc (by omega) fun H2 x2 => ?_
        fail "g"
        cases v : Zug row ls with
        | false =>
         have e : Zer ks rss (Za1 ls) = none := if_neg (fun z => by
          have := Wao.mp z.2 row (by rw [i1]; simp)
          rw [Zkb, v] at this; cases this)
         have q := q H2 (i4.trans x2)
         rw [show D.tup (ls.map D.int) = Za1 ls from rfl, e] at q
         fail "g"
         exact q
        | true =>
         fail "g"
         exact ⟨pre ++ [row], rs, _, by rw [i1]; simp, rfl, by rw [Wdi, i3]; simp [v], i4.trans x2, rfl⟩
      ·subst i5
       cases rs with
       | cons row rs => cases i2
       | nil =>
        rw [Xu] at i1
        subst i1
        have e : Zer ks rss (Za1 ls) = some ls := Ziy u fun row hr => by
         obtain ⟨l, h1, h2⟩ := Wau.mp (Wao.mp i3 row hr)
         exact ⟨l, h1, of_decide_eq_true h2⟩
        have q := q H1 i4
        rw [show D.tup (ls.map D.int) = Za1 ls from rfl, e] at q
        fail "g"
        exact q
    ·refine Zu8 tb h30 hb ?_
     have e : Zer ks rss b = none := by cases b with | tup xs => exact absurd rfl (hb xs) | _ => rfl
     rw [e] at q0
     fail "g"
     exact q0
  | [], h, q, q0, z => simp at z
  | b :: c :: s, h, q, q0, z => simp at z; omega
theorem Zmm {a : D} {r : List D} (q : Q a H) : wE (ixD (.tup (a :: r)) (.int 0) H) Q := w_ixT (Zef (j := 0) rfl) q
theorem Zog {S : List Nat} {k w pm : Nat} {ks : List D} {rss made : List (List Int)} {d : D} (hr : ∀ ls ∈ rss, R ks.length ls) (hk : ∀ d ∈ ks, Zbx d) (h8 : ks.length ≤ 8) (hm : ∀ ls ∈ made, R ks.length ls) (g : H[pm]? = some (.lst (made.map Za1))) (h : T S H k w d) (h30 : k ≤ 30)
  (q : ∀ H', Fm [] H H' → Q (Znj (stp ks rss made d)) H') : wE (Zc4 [Zah ks rss, .str "some", .ty "claims_term", .ref pm, d] H) Q := by
 refine Za2 rfl ?_
 show wS (Zez [some (Zah ks rss), some (.str "some"), some (.ty "claims_term"), some (.ref pm), some d] H) _
 unfold Zez
 fail "i"
 refine Zkv h h30 ?_
 cases d with
 | tup ds =>
  unfold Zye
  have ts := h.parts
  cases ds with
  | nil => fail "g"; exact q H Fm.refl
  | cons a r =>
   obtain ⟨w1, ta⟩ := ts.head.1
   fail "g"
   (refine WP.w_if ?_; fail "g")
   refine Zmm ?_
   fail "g"
   refine Zh9 ta h30 (Zce (by decide)) ?_
   fail "g"
   cases y : isS a "less" with
   | true =>
    have := Zjm y
    subst this
    fail "g"
    refine Zuo (rss := rss) hk h8 hm g ts h30 ?_
    fail "g"
    exact q H Fm.refl
   | false =>
    fail "i"
    refine Zmm ?_
    fail "g"
    refine Zh9 ta h30 (Zce (by decide)) ?_
    fail "g"
    cases x : isS a "joined" with
    | true =>
     have := Zjm x
     subst this
     fail "g"
     refine Zpb (rss := rss) hk h8 hm g ts h30 fun H1 x1 => ?_
     fail "g"
     exact q H1 x1
    | false =>
     fail "g"
     refine Zyg rfl ?_
     fail "g"
     refine Znk (made := made) h8 hr ts h30 y x fun H1 x1 => ?_
     fail "g"
     exact q H1 x1
 | _ => unfold Zye; fail "g"; exact q H Fm.refl
variable {σ : SD} {H : HD} {Q : D -> HD -> Prop}
theorem w_inF {p : Nat} {bs : List Bool} (g : H[p]? = some (.lst (bs.map .bl))) (q : Q (.bl (!bs.all id)) H) : wE (inD (.bl false) (.ref p) H) Q := by
 have f : Fines (bs.map D.bl) (bs.map Tbs) 0 := by
  clear g q
  induction bs with
  | nil => exact .nil
  | cons b r ih => exact .cons (.bl b) ih
 refine Zxq (.bl false) f (by omega) (by omega) g ?_
 have := Zvx bs
 rw [← this, Weh] at q
 exact q
theorem Zvz {x : Int} {p : Nat} {ls : List Int} (g : H[p]? = some (.lst (ls.map .int))) (q : Q (.bl (!decide (x ∈ ls))) H) : wE (niD (.int x) (.ref p) H) Q := w_niL (.int x) (Zbe ls) (by omega) (by omega) g (by rw [Zkj]; exact q)
theorem Zm5 {a : D} {s : Str} (h : isSt a = false) : isS a s = false := by
 cases a with
 | str x => cases h
 | _ => rfl
theorem len1 {r : List D} (h : r.length = 1) : ∃ b, r = [b] := by
 match r, h with
 | [b], _ => exact ⟨b, rfl⟩
theorem len3 {r : List D} (h : r.length = 3) : ∃ b c e, r = [b, c, e] := by
 match r, h with
 | [b, c, e], _ => exact ⟨b, c, e, rfl⟩
theorem Zkg {p r : Nat} {ds : List D} {xs : List Vs} {h : Nat} (f : Fines ds xs h) (hh : h < 30) (g1 : H[p]? = some (.lst ds)) (g2 : H[r]? = some (.lst [])) (q : Q (.bl ds.isEmpty) H) : wE (eqD (.ref p) (.ref r) H) Q := by
 refine ⟨_, _, Zg2 (f.dat hh g1) ((Fines.nil (h := 0)).dat (by omega) g2), ?_⟩
 have e : Ua (.list xs) (.list []) = ds.isEmpty := by
  have l := f.len
  cases ds with
  | nil => cases xs with
   | nil => rfl
   | cons a b => simp at l
  | cons d r => cases xs with
   | nil => simp at l
   | cons a b => simp [Ua, Tab]
 rw [e]; exact q
theorem Zne {S : List Nat} {k w : Nat} {ks : List D} {rss : List (List Int)} {d : D} (h8 : ks.length ≤ 8) (hr : ∀ ls ∈ rss, R ks.length ls) (h : T S H k w d) (h30 : k ≤ 30) (q : ∀ H', Fm [] H H' -> Q (.bl (Zer ks rss d).isSome) H') : wE (Zcv [Zah ks rss, d] H) Q := by
 refine Za2 rfl ?_
 show wS (Zb6 [some (Zah ks rss), some d, none, none, none] H) _
 unfold Zb6
 fail "i"
 refine Zkv h h30 ?_
 rcases Zvn d with ⟨xs, rfl⟩ | hb
 ·unfold Zye
  fail "g"
  have ts := h.parts
  have no : Zju (ks.length : Int) 0 xs = false -> Q (.bl false) H := fun x => by
   have e : Zer ks rss (.tup xs) = none := if_neg (fun z => by rw [x] at z; exact absurd z.1 (by simp))
   have q := q H Fm.refl
   rw [e] at q
   exact q
  refine Zby (fun d t σ H' => H' = H ∧ (∃ w', Ts S H k w' t) ∧ ∃ (last : Int) (z3 : Option D), Zju ks.length last t = Zju ks.length 0 xs ∧ σ = [some (Zah ks rss), some (.tup xs), some (.int last), z3, none]) (fun _ _ _ _ _ => Zfz) (fun d x t σ H1 ⟨e1, ⟨w', e2⟩, last, z, e3, e4⟩ => ?_) (fun d σ H1 ⟨e1, ⟨w', e2⟩, last, z, e3, e4⟩ => ?_) _ [] _ _ ⟨rfl, ⟨_, ts⟩, 0, _, rfl, rfl⟩
  ·subst e1 e4
   obtain ⟨a, b, t1, t2, _⟩ := e2.two
   have two := (t1.ok h30).isi "bool" rfl
   fail "i"
   refine Zfd ((t1.ok h30).isi "int" rfl) ?_
   rcases (show (∃ i, x = .int i) ∨ ∀ i, x ≠ .int i by cases x <;> simp) with ⟨i, rfl⟩ | hx
   ·rw [Zju] at e3
    fail "i"
    refine ⟨fun h1 => ?_, fun h1 => ?_⟩
    ·have h1 := of_decide_eq_true h1
     fail "g"
     cases h2 : decide (Zas i ≤ (ks.length : Int)) with
     | false =>
      rw [h2] at e3
      simp only [Wdb, Wcb] at e3
      fail "g"
      exact no e3.symm
     | true =>
      rw [decide_eq_true h1, h2] at e3
      simp only [Wdf] at e3
      fail "g"
      exact ⟨rfl, ⟨b, t2⟩, Zas i, _, e3, rfl⟩
    ·rw [h1] at e3
     simp only [Wcb] at e3
     fail "g"
     exact no e3.symm
   ·have e5 : Zju ks.length last (x :: t) = false := by cases x <;> first | rfl | exact absurd rfl (hx _)
    rw [e5] at e3
    cases x with
    | int i => exact absurd rfl (hx i)
    | bl y => fail "g"; exact no e3.symm
    | _ => fail "g"; exact no e3.symm
  ·subst e1 e4
   rw [Zju] at e3
   obtain ⟨e, u⟩ := Zgj e3.symm
   generalize xs.map Zkp = ls at e u
   subst e
   fail "g"
   refine Zby (fun d t σ H' => ∃ (pre : List (List Int)) (rs : List (List Int)) (z2 : Option D), rss = pre ++ rs ∧ t = rs.map Za1 ∧ (pre.all fun row => Zug row ls) = true ∧ Fm [] H1 H' ∧ σ = [some (Zah ks rss), some (.tup (ls.map .int)), some (.int last), z, z2]) (fun _ _ _ _ _ => Zfz) (fun d x t σ H2 ⟨pre, rs, z2, i1, i2, i3, i4, i5⟩ => ?_) (fun d σ H2 ⟨pre, rs, z2, i1, i2, i3, i4, i5⟩ => ?_) _ [] _ _ ⟨[], rss, _, rfl, rfl, rfl, Fm.refl, rfl⟩
   ·subst i5
    cases rs with
    | nil => cases i2
    | cons row rs =>
     obtain ⟨rfl, rfl⟩ := Way.inj i2
     have lr := (hr row (by rw [i1]; simp)).len
     fail "i"
     refine ⟨row.map .int, [], rfl, ?_⟩
     refine Zb1 (fun d => decide (Zkp d ∈ ls)) (fun H' => H' = H2) (fun _ j => Zfz) _ (fun y hy H3 j => ?_) _ rfl fun H3 j => ?_
     ·obtain ⟨z, hz, rfl⟩ := Xj.mp hy
      subst j
      fail "g"
      exact Zxb ⟨_, rfl, rfl, rfl⟩
     subst j
     have ef : (row.map D.int).filter (fun d => decide (Zkp d ∈ ls)) = (row.filter fun l => decide (l ∈ ls)).map .int := by
      rw [Wbh]
      rfl
     rw [ef]
     refine ⟨by have := Waj (fun l => decide (l ∈ ls)) row; simp at this ⊢; omega, ?_⟩
     fail "g"
     refine Zkg (Zbe (row.filter fun l => decide (l ∈ ls))) (by omega) (appL WP.last) WP.last ?_
     have ee : ((row.filter fun l => decide (l ∈ ls)).map D.int).isEmpty = !Zug row ls := by
      cases v : Zug row ls with
      | true =>
       obtain ⟨l, h1, h2⟩ := Wau.mp v
       cases w : row.filter fun l => decide (l ∈ ls) with
       | nil => exact absurd (Wac.mpr ⟨h1, h2⟩) (by rw [w]; simp)
       | cons a b => rfl
      | false =>
       have : row.filter (fun l => decide (l ∈ ls)) = [] := Wcv.mpr fun l hl => Wbz.mp v l hl
       rw [this]; rfl
     rw [ee]
     have X3 := (i4.trans (Fm.app (S := []) [DO.lst ((row.filter fun l => decide (l ∈ ls)).map D.int)])).trans (Fm.app (S := []) [DO.lst []])
     fail "g"
     cases v : Zug row ls with
     | false =>
      have e : Zer ks rss (Za1 ls) = none := if_neg (fun z => by
       have := Wao.mp z.2 row (by rw [i1]; simp)
       rw [Zkb, v] at this; cases this)
      have q := q _ X3
      rw [show D.tup (ls.map D.int) = Za1 ls from rfl, e] at q
      fail "g"
      exact q
     | true =>
      fail "g"
      exact ⟨pre ++ [row], rs, _, by rw [i1]; simp, rfl, by rw [Wdi, i3]; simp [v], X3, rfl⟩
   ·subst i5
    cases rs with
    | cons row rs => cases i2
    | nil =>
     rw [Xu] at i1
     subst i1
     have e : Zer ks rss (Za1 ls) = some ls := Ziy u fun row hr => by
      obtain ⟨l, h1, h2⟩ := Wau.mp (Wao.mp i3 row hr)
      exact ⟨l, h1, of_decide_eq_true h2⟩
     have q := q H2 i4
     rw [show D.tup (ls.map D.int) = Za1 ls from rfl, e] at q
     fail "g"
     exact q
 ·have e : Zer ks rss d = none := by cases d with | tup xs => exact absurd rfl (hb xs) | _ => rfl
  rw [Zqa hb]
  have q := q H Fm.refl
  rw [e] at q
  fail "g"
  exact q
theorem Zgc {S : List Nat} {k w : Nat} {ks : List D} {rss : List (List Int)} {m z : Option D} {a : D} {r : List D} (h8 : ks.length ≤ 8) (hr : ∀ ls ∈ rss, R ks.length ls) (h : Ts S H k w (a :: r)) (h30 : k ≤ 30)
  (hn : (isS a "term" = false ∨ r.length ≠ 1) → Q .non H) (hy : ∀ b, r = [b] → isS a "term" = true → ∀ H', Fm [] H H' → Q (Znj (Zer ks rss b)) H') :
  wS (sIf (tAn (tOf (eOp eqD (eOp ixD (Zac 2) (eC (.int 0))) (eC (.str "term")))) (tAn (tOf (eOp eqD (eCB Zb8 (Zaa (Zac 2) Zae)) (eC (.int 2)))) (Ze4 (Zam 2 Zcv (Zaa (Zac 0) (Zaa (eOp ixD (Zac 2) (eC (.int 1))) Zae)))))) (Zaf (Zaw (eOp ixD (Zac 2) (eC (.int 1)))) Zaj) Zaj [some (Zah ks rss), m, some (.tup (a :: r)), z] H)
   (Ztd (fun σ1 H1 => wS (Zaf (Zaw (eC .non)) Zaj σ1 H1) (fin Q)) (fin Q)) := by
 obtain ⟨w1, ta⟩ := h.head.1
 (refine WP.w_if ?_; fail "g")
 refine Zmm ?_
 fail "g"
 refine Zh9 ta h30 (Zce (by decide)) ?_
 fail "g"
 cases y : isS a "term" with
 | false => fail "g"; exact hn (.inl y)
 | true =>
  fail "g"
  refine ⟨fun v => ?_, fun v => ?_⟩
  ·obtain ⟨b, rfl⟩ := len1 (r := r) (by simp at v; omega)
   obtain ⟨w1, tb⟩ := h.head.2.elim fun _ x => x.head.1
   fail "g"
   refine Zne h8 hr tb h30 fun H1 x1 => ?_
   have q := hy b rfl y H1 x1
   fail "g"
   cases e : Zer ks rss b with
   | none => rw [e] at q; unfold Wfm; fail "g"; exact q
   | some ls =>
    rw [e] at q
    have := (Zje e).1
    subst this
    unfold Wfm
    fail "g"
    exact q
  ·fail "g"
   exact hn (.inr fun x => by simp [x] at v)
theorem Zll {ks : List D} {e : D} : Zhq ks e = (Zff e ((ks.length : Int) + 1) && (match e with | .int n => decide (n ∈ nms ks) | _ => false)) := by
 cases e with
 | int n =>
  rw [Weg]
  show (decide (1 ≤ n) && decide (n ≤ (ks.length : Int)) && !Ze5 ks n) = true ↔ (decide (0 ≤ n) && decide (n < (ks.length : Int) + 1) && decide (n ∈ nms ks)) = true
  rw [Xv, Xv, Xv, Xv, decide_eq_true_iff, decide_eq_true_iff, decide_eq_true_iff, decide_eq_true_iff, decide_eq_true_iff, Zmw]
  simp only [Wfb]
  constructor
  ·rintro ⟨⟨h1, h2⟩, h3⟩; exact ⟨⟨by omega, by omega⟩, h1, h2, h3⟩
  ·rintro ⟨_, h1, h2, h3⟩; exact ⟨⟨h1, h2⟩, h3⟩
 | _ => rfl
theorem Zlq {S : List Nat} {k w pm : Nat} {ks : List D} {rss made : List (List Int)} {d : D} (hr : ∀ ls ∈ rss, R ks.length ls) (hk : ∀ d ∈ ks, Zbx d) (h8 : ks.length ≤ 8) (hm : ∀ ls ∈ made, R ks.length ls) (g : H[pm]? = some (.lst (made.map Za1))) (h : T S H k w d) (h30 : k ≤ 30)
  (q : ∀ H', Fm [] H H' -> Q (Znj (stp ks rss made d)) H') : wE (Zfa [Zah ks rss, .ref pm, d] H) Q := by
 refine Za2 rfl ?_
 show wS (Zdy [some (Zah ks rss), some (.ref pm), some d, none] H) _
 unfold Zdy
 fail "i"
 refine Zkv h h30 ?_
 cases d with
 | tup ds =>
  unfold Zye
  have ts := h.parts
  cases ds with
  | nil => fail "g"; exact q H Fm.refl
  | cons a r =>
   obtain ⟨w1, ta⟩ := ts.head.1
   have no : stp ks rss made (.tup (a :: r)) = none -> Q .non H := fun e => by have q := q H Fm.refl; rw [e] at q; exact q
   fail "g"
   refine Zmm ?_
   fail "g"
   refine Zy4 ta h30 ?_
   fail "g"
   cases ys : isSt a with
   | false => fail "g"; exact no (Zol (Zm5 ys) (Zm5 ys) (.inl (Zm5 ys)))
   | true =>
    fail "i"
    refine Zmm ?_
    fail "g"
    refine Zh9 ta h30 (Zce (by decide)) ?_
    fail "g"
    cases y : isS a "less" with
    | true =>
     have := Zjm y
     subst this
     by_cases hl : r.length = 1
     ·obtain ⟨b, rfl⟩ := len1 hl
      obtain ⟨w1, tb⟩ := ts.head.2.elim fun _ x => x.head.1
      fail "g"
      rw [Xk]
      refine Zku tb h30 ?_
      fail "g"
      cases x : Zff b (made.length : Int) with
      | false =>
       fail "i"
       refine Zgc h8 hr ts h30 (fun _ => no (Zvm x)) (fun b _ z => absurd z (by decide))
      | true =>
       obtain ⟨i, rfl, hi⟩ := Zcx x
       rw [Zoo hi] at q
       fail "g"
       refine w_ixR g (Zhd hi) ?_
       fail "g"
       refine Zqu hk h8 (hm _ (Wag hi)) fun H1 x1 => ?_
       fail "g"
       exact q _ x1
     ·fail "g"
      refine ⟨fun v => absurd v (by simp; omega), fun v => ?_⟩
      fail "i"
      refine Zmm ?_
      fail "g"
      refine Zgc h8 hr ts h30 (fun _ => no (Zwk hl)) (fun b _ z => absurd z (by decide))
    | false =>
     fail "i"
     refine Zmm ?_
     fail "g"
     refine Zh9 ta h30 (Zce (by decide)) ?_
     fail "g"
     cases x : isS a "joined" with
     | false =>
      fail "g"
      refine Zgc h8 hr ts h30 (fun z => no (Zol y x z)) (fun b e z H1 x1 => ?_)
      subst e
      have := Zjm z
      subst this
      have q := q H1 x1
      rw [Zsx] at q
      exact q
     | true =>
      have := Zjm x
      subst this
      fail "g"
      refine ⟨fun v => ?_, fun v => ?_⟩
      ·obtain ⟨b, c, e, rfl⟩ := len3 (r := r) (by simp at v; omega)
       obtain ⟨w1, hb⟩ := ts.head.2
       obtain ⟨w2, tb⟩ := hb.head.1
       obtain ⟨w3, hc⟩ := hb.head.2
       obtain ⟨w4, tc⟩ := hc.head.1
       obtain ⟨w5, he⟩ := hc.head.2
       obtain ⟨w6, te⟩ := he.head.1
       refine w_seq (w_set (Zqp hk h8 ?_))
       have X1 : Fm [] H (H ++ [DO.lst ((nms ks).map .int)]) := Fm.app _
       have nj : (Zff b made.length && Zff c made.length && Zhq ks e) = false -> ∀ H', Fm [] H H' -> Q .non H' := fun y H' x' => by
        have q := q H' x'
        rw [Zv3 y] at q
        exact q
       fail "i"
       refine Zfd (d := .tup [b, c]) (by with_unfolding_all rfl) ?_
       fail "g"
       refine Zj0 (fun d => .bl (Zff d made.length)) (fun H' => H' = H ++ [DO.lst ((nms ks).map .int)]) (fun _ _ => Zfz) _ (fun y hy H2 j => ?_) _ rfl fun H2 j => ?_
       ·subst j
        obtain ⟨w7, ty⟩ : ∃ w7, T S H k w7 y := by
         rcases Xn.mp hy with rfl | hy
         ·exact ⟨_, tb⟩
         ·rw [Wey.mp hy]; exact ⟨_, tc⟩
        show wE (Zam 2 Zbn (Zaa (Zac 0) (Zaa (eCB Zb8 (Zaa (Zac 1) Zae)) Zae)) (some y :: [some (.ref pm)]) _) _
        fail "g"
        rw [Xk]
        refine Zku (ty.fm0 X1) h30 ?_
        exact ⟨rfl, rfl⟩
       subst j
       refine ⟨by simp, ?_⟩
       refine w_inF (bs := [Zff b made.length, Zff c made.length]) last ?_
       fail "g"
       have X2 := X1.trans (Fm.app (S := []) [DO.lst [D.bl (Zff b made.length), D.bl (Zff c made.length)]])
       cases yb : Zff b (made.length : Int) with
       | false => fail "g"; exact nj (by rw [yb]; rfl) _ X2
       | true =>
        cases yc : Zff c (made.length : Int) with
        | false => fail "g"; exact nj (by rw [yb, yc]; rfl) _ X2
        | true =>
         fail "i"
         refine Zku (te.fm0 X2) h30 ?_
         fail "g"
         cases ye : Zff e ((ks.length : Int) + 1) with
         | false => fail "g"; exact nj (by rw [yb, yc, Zll, ye]; rfl) _ X2
         | true =>
          obtain ⟨n, rfl, hn⟩ := Zcx (m := ks.length + 1) ye
          fail "g"
          refine Zvz (appL last) ?_
          fail "g"
          cases yn : decide ((n : Int) ∈ nms ks) with
          | false => fail "g"; exact nj (by rw [yb, yc, Zll, ye]; exact yn) _ X2
          | true =>
           obtain ⟨i, rfl, hi⟩ := Zcx yb
           obtain ⟨j, rfl, hj⟩ := Zcx yc
           obtain ⟨n1, n2, n3⟩ := Zmw.mp (of_decide_eq_true yn)
           rw [Zr8 hi hj ⟨n1, n2⟩ n3] at q
           fail "g"
           refine w_ixR (appL (appL g)) (Zhd hi) ?_
           fail "g"
           refine w_ixR (appL (appL g)) (Zhd hj) ?_
           fail "g"
           refine Ziq (hm _ (Wag hi)) (hm _ (Wag hj)) h8 n1 fun H1 x1 => ?_
           fail "g"
           exact q _ (X2.trans x1)
      ·fail "g"
       refine Zgc h8 hr ts h30 (fun z => no (Zwt fun w => by simp [w] at v)) (fun b _ z => absurd z (by decide))
 | _ => unfold Zye; fail "g"; exact q H Fm.refl
variable {σ : SD} {H : HD} {Q : D -> HD -> Prop}
structure CR (ks : List D) (rss : List (List Int)) : Prop where
 hk : ∀ d ∈ ks, Zbx d
 h8 : ks.length ≤ 8
 hr : ∀ ls ∈ rss, R ks.length ls
 hl : rss.length ≤ 1000
def Th (k : Nat) (H : HD) (ds : List D) : Prop := ∀ d ∈ ds, ∃ w, T [] H k w d
theorem Th.fm {k : Nat} {H H' : HD} {ds : List D} (t : Th k H ds) (x : Fm [] H H') : Th k H' ds := fun d hd => let ⟨w, h⟩ := t d hd; ⟨w, h.fm0 x⟩
theorem Zqc {f : AF} {I : List D -> Zhn -> HD -> Prop} (h : wA (f σ H) fun ds H1 => ∃ n xs, ds = [.ref n] ∧ H1[n]? = some (.lst xs) ∧ I (Zb9 0 xs) [(n, .lst xs)] H1) : wI (Zk1 f σ H) I := by
 obtain ⟨ds, H1, e, n, xs, rfl, g, q⟩ := h
 exact ⟨_, _, _, by unfold Zk1; rw [e]; simp only [Zb]; rw [g], q⟩
nonrec abbrev amB : SF := (Zaf (Zax 7 (Zam 5 Zc4 (Zaa (Zac 0) (Zaa (Zac 1) (Zaa (Zac 2) (Zaa (Zac 4) (Zaa (Zac 6) Zae)))))))
 (Zaf (sIf (tOf (eOp isD (Zac 7) (eC .non))) (Zaf Zz6 Zaj) Zaj) (Zaf (Zdf (eLM Zbd (Zac 4) (Zaa (Zac 7) Zae))) Zaj)))
nonrec abbrev amY : YFs := (Zw5 (Zax 7 (Zam 5 Zc4 (Zaa (Zac 0) (Zaa (Zac 1) (Zaa (Zac 2) (Zaa (Zac 4) (Zaa (Zac 6) Zae)))))))
 (yIf (tOf (eOp isD (Zac 7) (eC .non))) (Zjh (Zac 5)) yNo))
nonrec abbrev amG : GF := gTp 2 (gCn (gNm 5) (gCn (gNm 6) gNl))
section
variable {k w pm : Nat} {ks : List D} {rss made : List (List Int)} {d sd : D} {x : List Int} {n : Int} {z5 z6 z7 : Option D}
theorem Zvo {K : SD -> HD -> Prop} {Z : FD -> SD -> HD -> Prop} (c : CR ks rss) (hm : ∀ ls ∈ made, R ks.length ls) (hl : made.length ≤ 1000) (g : H[pm]? = some (.lst (made.map Za1))) (h : T [] H k w d) (h30 : k ≤ 30) (e : stp ks rss made d = some x)
  (q : ∀ H2, Fm [pm] H H2 → H2[pm]? = some (.lst ((made ++ [x]).map Za1)) → K [some (Zah ks rss), some (.str "some"), some (.ty "claims_term"), some sd, some (.ref pm), some (.int n), some d, some (Za1 x)] H2) :
  wG (amG (.tup [.int n, d]) [some (Zah ks rss), some (.str "some"), some (.ty "claims_term"), some sd, some (.ref pm), z5, z6, z7] H) fun σ1 H1 => wS (amB σ1 H1) (again K Z) := by
 fail "g"
 refine Zog c.hr c.hk c.h8 hm g h h30 fun H1 x1 => ?_
 rw [e]
 show wS _ _
 fail "i"
 refine ⟨isl (x1.lst (by simp) g), ?_⟩
 fail "g"
 refine Zgv (x1.lst (by simp) g) (by simp; omega) ?_
 fail "g"
 refine q _ ((x1.sub (by simp)).trans (Fm.set (by simp))) ?_
 rw [Zpg (x1.lst (by simp) g)]
 simp
 rfl
theorem Ya2 (c : CR ks rss) (hm : ∀ ls ∈ made, R ks.length ls) (g : H[pm]? = some (.lst (made.map Za1))) (h : T [] H k w d) (h30 : k ≤ 30) (e : stp ks rss made d = none) {Z : Int -> HD -> Prop} (hn : n.natAbs < 1000000) (q : ∀ H2, Fm [] H H2 -> Z n H2) :
  wG (amG (.tup [.int n, d]) [some (Zah ks rss), some (.str "some"), some (.ty "claims_term"), some sd, some (.ref pm), z5, z6, z7] H) fun σ1 H1 => wX (amB σ1 H1) (amY σ1 H1) Z := by
 fail "g"
 refine Zwh ?_
 fail "g"
 refine Zog c.hr c.hk c.h8 hm g h h30 fun H1 x1 => ?_
 rw [e]
 fail "g"
 refine Zvy (wx_if ?_)
 fail "g"
 refine Zu0 ?_
 fail "g"
 exact ⟨hn, q _ x1⟩
end
section
variable {k ps : Nat} {ks : List D} {rss : List (List Int)} {ds : List D}
theorem Zew (c : Nat) (d : D) (r : List D) : Zb9 (c : Int) (d :: r) = .tup [.int c, d] :: Zb9 ((c + 1 : Nat) : Int) r := by
 rw [Zb9]
 simp
theorem Zhr {made : List (List Int)} {pre : List D} {d : D} {x : List Int} (ok : mok ks rss made pre = true) (e : stp ks rss (mad ks rss made pre) d = some x) : mok ks rss made (pre ++ [d]) = true ∧ mad ks rss made (pre ++ [d]) = mad ks rss made pre ++ [x] := by
 rw [Zj8, ok, Zkk _ _ _ _ _ ok]
 simp only [mok, mad, e, Wdf, and_self]
theorem Zly (c : CR ks rss) (g : H[ps]? = some (.lst ds)) (t : Th k H ds) (h30 : k ≤ 30) (hl : ds.length ≤ 1000) (ok : mok ks rss [] ds = true)
  (q : ∀ p H', H'[p]? = some (.lst ((mad ks rss [] ds).map Za1)) → H.length ≤ p → Fm [] H H' → Q (.ref p) H') : wE (Zd2 [Zah ks rss, .str "some", .ty "claims_term", .ref ps] H) Q := by
 refine Za2 rfl ?_
 show wS (Zcd [some (Zah ks rss), some (.str "some"), some (.ty "claims_term"), some (.ref ps), none, none, none, none] H) _
 unfold Zcd
 fail "g"
 refine Zqc ?_
 fail "g"
 refine ⟨_, _, rfl, appL g, ?_⟩
 have np : H.length ≠ ps := by have := (Xd.mp g).1; omega
 refine Zby (g := amG) (b := amB) (fun d t σ H' => ∃ (pre r : List D) (z5 z6 z7 : Option D), ds = pre ++ r ∧ t = Zb9 (pre.length : Int) r ∧ mok ks rss [] pre = true ∧ H'[H.length]? = some (.lst ((mad ks rss [] pre).map Za1)) ∧ Fm [] H H' ∧ σ = [some (Zah ks rss), some (.str "some"), some (.ty "claims_term"), some (.ref ps), some (.ref H.length), z5, z6, z7]) (fun d t σ H' ⟨pre, r, z5, z6, z7, i1, i2, i3, i4, i5, i6⟩ => Ztg (i5.lst (by simp) g)) (fun d x tt σ H1 ⟨pre, r, z5, z6, z7, i1, i2, i3, i4, i5, i6⟩ => ?_) (fun d σ H1 ⟨pre, r, z5, z6, z7, i1, i2, i3, i4, i5, i6⟩ => ?_) _ [] _ _ ⟨[], ds, _, _, _, rfl, rfl, rfl, last, Fm.app _, rfl⟩
 ·subst i6
  cases r with
  | nil => cases i2
  | cons d0 r =>
   rw [Zew] at i2
   obtain ⟨rfl, rfl⟩ := Way.inj i2
   have o2 := ok
   rw [i1, Zj8, i3, Wdf] at o2
   cases e : stp ks rss (mad ks rss [] pre) d0 with
   | none => simp only [mok, e] at o2; cases o2
   | some x =>
    obtain ⟨s1, s2⟩ := Zhr i3 e
    obtain ⟨w, td⟩ := t d0 (by rw [i1]; simp)
    have lm := Zf4 ks rss pre [] i3
    have ld : pre.length < ds.length := by rw [i1]; simp
    refine Zvo c (Zj6 c.hr pre [] (by simp)) (by simp at lm; omega) i4 (td.fm0 i5) h30 e fun H2 x2 g2 => ?_
    exact ⟨pre ++ [d0], r, _, _, _, by rw [i1]; simp, by simp, s1, by rw [s2]; exact g2, i5.new x2 (fun q hq _ => by simp at hq; subst hq; exact Xc _), rfl⟩
 ·subst i6
  cases r with
  | cons d0 r => rw [Zew] at i2; cases i2
  | nil =>
   rw [Xu] at i1
   subst i1
   fail "g"
   exact q _ _ i4 (Xc _) i5
theorem Zv4 (c : CR ks rss) {H0 : HD} (g : H0[ps]? = some (.lst ds)) (t : Th k H0 ds) (h30 : k ≤ 30) (hl : ds.length ≤ 1000) : ∀ (r pre : List D) (z5 z6 z7 : Option D) (H : HD), ds = pre ++ r -> mok ks rss [] pre = true -> mok ks rss (mad ks rss [] pre) r = false -> H[H0.length]? = some (.lst ((mad ks rss [] pre).map Za1)) -> Fm [] H0 H →
  wX (Zi4 [(ps, .lst ds)] amG amB (Zb9 (pre.length : Int) r) [some (Zah ks rss), some (.str "some"), some (.ty "claims_term"), some (.ref ps), some (.ref H0.length), z5, z6, z7] H) (Zf3 [(ps, .lst ds)] amG amB amY (Zb9 (pre.length : Int) r) [some (Zah ks rss), some (.str "some"), some (.ty "claims_term"), some (.ref ps), some (.ref H0.length), z5, z6, z7] H) fun i H2 => i = ((mad ks rss [] ds).length : Int) ∧ Fm [] H0 H2
 | [], pre, z5, z6, z7, H, i1, i2, i3, i4, i5 => by cases i3
 | d0 :: r, pre, z5, z6, z7, H, i1, i2, i3, i4, i5 => by
  rw [Zew]
  obtain ⟨w, td⟩ := t d0 (by rw [i1]; simp)
  have lm := Zf4 ks rss pre [] i2
  have ld : pre.length < ds.length := by rw [i1]; simp
  have np : H0.length ≠ ps := by have := (Xd.mp g).1; omega
  cases e : stp ks rss (mad ks rss [] pre) d0 with
  | none =>
   refine Zyl (Ztg (i5.lst (by simp) g)) (Ya2 c (Zj6 c.hr pre [] (by simp)) i4 (td.fm0 i5) h30 e (by omega) fun H2 x2 => ⟨?_, i5.trans x2⟩)
   have e1 : mad ks rss [] ds = mad ks rss [] pre := by
    rw [i1, Zkk _ _ _ _ _ i2]
    simp only [mad, e]
   rw [e1, lm]
   simp
  | some x =>
   obtain ⟨s1, s2⟩ := Zhr i2 e
   have i3' : mok ks rss (mad ks rss [] (pre ++ [d0])) r = false := by
    simp only [mok, e] at i3
    rw [s2]; exact i3
   refine Zxm (Ztg (i5.lst (by simp) g)) (Zvo c (Zj6 c.hr pre [] (by simp)) (by simp at lm; omega) i4 (td.fm0 i5) h30 e fun H2 x2 g2 => ?_)
   have := Zv4 c g t h30 hl r (pre ++ [d0]) (some (.int (pre.length : Int))) (some d0) (some (Za1 x)) H2 (by rw [i1]; simp) s1 i3' (by rw [s2]; exact g2) (i5.new x2 (fun q hq _ => by simp at hq; subst hq; exact Xc _))
   simpa using this
theorem Zk6 (c : CR ks rss) (g : H[ps]? = some (.lst ds)) (t : Th k H ds) (h30 : k ≤ 30) (hl : ds.length ≤ 1000) (ok : mok ks rss [] ds = false) {Z : Int -> HD -> Prop} (q : ∀ H', Fm [] H H' -> Z ((mad ks rss [] ds).length : Int) H') :
  wXD (Zd2 [Zah ks rss, .str "some", .ty "claims_term", .ref ps] H) (Zfb [Zah ks rss, .str "some", .ty "claims_term", .ref ps] H) Z := by
 refine Zvq rfl ?_
 show wX (Zcd [some (Zah ks rss), some (.str "some"), some (.ty "claims_term"), some (.ref ps), none, none, none, none] H) (Zc8 [some (Zah ks rss), some (.str "some"), some (.ty "claims_term"), some (.ref ps), none, none, none, none] H) _
 unfold Zcd Zc8
 refine Zwh ?_
 fail "g"
 refine Zvy (Ycj (Zqc ?_))
 fail "g"
 refine ⟨_, _, rfl, appL g, ?_⟩
 obtain ⟨h1, i, H2, e, rfl, x2⟩ := Zv4 c g t h30 hl ds [] none none none (H ++ [.lst []]) rfl rfl ok last (Fm.app _)
 exact ⟨h1, _, H2, e, q _ x2⟩
end
variable {σ : SD} {H : HD} {Q : D -> HD -> Prop}
theorem Zuy {n : Nat} {F : FF} {Y : YFF} {fa : AF} {g : SF} {Z : Int -> HD -> Prop} (h : wA (fa σ H) fun ds H1 => ds.length = n ∧ wXD (F ds H1) (Y ds H1) Z) : wX (Zaf (Zaw (Zam n F fa)) g σ H) (Zfe n Y fa σ H) Z := by
 obtain ⟨ds, H1, e, hl, e1, q⟩ := h
 refine ⟨Zt1 ?_, ?_⟩
 ·unfold Zaw Zam; rw [e]; simp only [Zb]; rw [if_pos hl, e1]; rfl
 ·unfold Zfe; rw [e]; simp only [Zb]; rw [if_pos hl]; exact q
theorem Zeg {p r : Nat} {xs ys : List D} (g1 : H[p]? = some (.lst xs)) (g2 : H[r]? = some (.lst ys)) (h : xs.length + ys.length ≤ 1000000) (q : Q (.ref H.length) (H ++ [.lst (xs ++ ys)])) : wE (Zbb (.ref p) (.ref r) H) Q := by
 refine ⟨_, _, ?_, q⟩
 simp only [Zbb, g1, g2]
 exact if_pos (Zfu (by rw [Wap]; exact h))
theorem Zws {p r : Nat} {ds : List D} {xs : List Vs} {h : Nat} (f : Fines ds xs h) (hh : h < 30) (g1 : H[p]? = some (.lst ds)) (g2 : H[r]? = some (.lst ds)) (q : Q (.bl true) H) : wE (eqD (.ref p) (.ref r) H) Q :=
 ⟨_, _, Zg2 (f.dat hh g1) (f.dat hh g2), by rw [Zhy (.list xs) f.lay]; exact q⟩
theorem Yb0 {p r : Nat} {ds : List D} {xs : List Vs} {h : Nat} (f : Fines ds xs h) (hh : h < 30) (g1 : H[p]? = some (.lst ds)) (g2 : H[r]? = some (.lst ds)) (q : Q (.bl false) H) : wE (neD (.ref p) (.ref r) H) Q :=
 ⟨_, _, Zgp (f.dat hh g1) (f.dat hh g2), by rw [Zhy (.list xs) f.lay]; exact q⟩
nonrec def Zpy (ks : List D) (rss : List (List Int)) (ds : List D) : Bool := mok ks rss [] ds && (match (mad ks rss [] ds).getLast? with
 | some ls => ls.isEmpty
 | none => false)
section
variable {k ps : Nat} {ks : List D} {rss : List (List Int)} {ds : List D}
theorem Zki (c : CR ks rss) (g : H[ps]? = some (.lst ds)) (t : Th k H ds) (h30 : k ≤ 30) (hl : ds.length ≤ 1000) (ok : mok ks rss [] ds = true)
  (q : ∀ p H', H'[p]? = some (.lst ((mad ks rss [] ds).map Za1)) -> H.length ≤ p -> Fm [] H H' -> Q (.ref p) H') : wE (Zbz [Zah ks rss, .ref ps] H) Q := by
 refine Za2 rfl ?_
 show wS (Zcf [some (Zah ks rss), some (.ref ps)] H) _
 unfold Zcf
 fail "g"
 refine Zly c g t h30 hl ok fun p H' g' l x => ?_
 fail "g"
 exact q p H' g' l x
theorem Zou (c : CR ks rss) (g : H[ps]? = some (.lst ds)) (t : Th k H ds) (h30 : k ≤ 30) (hl : ds.length ≤ 1000) (ok : mok ks rss [] ds = false) {Z : Int -> HD -> Prop} (q : ∀ H', Fm [] H H' -> Z ((mad ks rss [] ds).length : Int) H') :
  wXD (Zbz [Zah ks rss, .ref ps] H) (Ze3 [Zah ks rss, .ref ps] H) Z := by
 refine Zvq rfl ?_
 show wX (Zcf [some (Zah ks rss), some (.ref ps)] H) (Zc0 [some (Zah ks rss), some (.ref ps)] H) _
 unfold Zcf Zc0
 refine Zuy ?_
 fail "g"
 exact ⟨rfl, Zk6 c g t h30 hl ok q⟩
theorem Zr2 (c : CR ks rss) (g : H[ps]? = some (.lst ds)) (t : Th k H ds) (h30 : k ≤ 30) (hl : ds.length ≤ 1000) (q : ∀ H', Fm [] H H' -> Q (.bl (Zpy ks rss ds)) H') : wE (Zc6 [Zah ks rss, .ref ps] H) Q := by
 refine Za2 rfl ?_
 show wS (Zbo [some (Zah ks rss), some (.ref ps)] H) _
 unfold Zbo
 fail "g"
 refine Za2 rfl ?_
 show wS (Zd3 [some (Zah ks rss), some (.str "some"), some (.ty "claims_term"), some (.ref ps), none] H) _
 unfold Zd3
 fail "i"
 refine w_isi' rfl (tyR g) (r := true) rfl ?_
 fail "g"
 cases ok : mok ks rss [] ds with
 | false =>
  have e : Zpy ks rss ds = false := by unfold Zpy; rw [ok]; rfl
  rw [e] at q
  refine Zys (Zue ?_)
  fail "g"
  refine ⟨rfl, Zk6 c g t h30 hl ok fun H' x => ?_⟩
  fail "g"
  exact q H' x
 | true =>
  refine Zzd ?_
  fail "g"
  refine Zly c g t h30 hl ok fun p H' g' l x => ?_
  fail "g"
  cases em : (mad ks rss [] ds).reverse with
  | nil =>
   have e0 : mad ks rss [] ds = [] := by simpa using em
   have e : Zpy ks rss ds = false := by unfold Zpy; rw [e0]; simp
   rw [e0] at g'
   rw [e] at q
   rw [e0]
   fail "g"
   exact q H' x
  | cons y r =>
   have e0 : mad ks rss [] ds = r.reverse ++ [y] := by
    have := congrArg List.reverse em
    simpa using this
   have e : Zpy ks rss ds = y.isEmpty := by unfold Zpy; rw [ok, e0, Wel]; rfl
   rw [e0] at g'
   rw [e] at q
   rw [e0]
   refine ⟨fun _ => ?_, fun z => by simp at z⟩
   fail "g"
   refine w_ixR g' (by rw [Wad]; exact Zu9 _ _) ?_
   fail "g"
   refine Zzf (Zbe y) (by omega) ?_
   fail "g"
   rw [show (y.map D.int).isEmpty = y.isEmpty by cases y <;> rfl]
   exact q H' x
theorem Zim (c : CR ks rss) (g : H[ps]? = some (.lst ds)) (t : Th k H ds) (h30 : k ≤ 30) (hl : ds.length ≤ 1000)
  (q : ∀ p H', H'[p]? = some (.lst ((mad ks rss [] ds).map Za1)) -> H.length ≤ p -> Fm [] H H' -> Q (.ref p) H') : wE (Zdv [Zah ks rss, .ref ps] H) Q := by
 refine Za2 rfl ?_
 show wS (Zd1 [some (Zah ks rss), some (.ref ps), none, none, none] H) _
 unfold Zd1
 fail "g"
 have np : H.length ≠ ps := by have := (Xd.mp g).1; omega
 refine Zby (fun d t σ H' => ∃ (pre : List D) (z3 z4 : Option D), ds = pre ++ t ∧ mok ks rss [] pre = true ∧ H'[H.length]? = some (.lst ((mad ks rss [] pre).map Za1)) ∧ Fm [] H H' ∧ σ = [some (Zah ks rss), some (.ref ps), some (.ref H.length), z3, z4]) (fun d t σ H' ⟨pre, z3, z4, i1, i3, i4, i5, i6⟩ => Ztg (i5.lst (by simp) g)) (fun d d0 r σ H1 ⟨pre, z3, z4, i1, i3, i4, i5, i6⟩ => ?_) (fun d σ H1 ⟨pre, z3, z4, i1, i3, i4, i5, i6⟩ => ?_) _ [] _ _ ⟨[], _, _, rfl, rfl, last, Fm.app _, rfl⟩
 ·subst i6
  obtain ⟨w, td⟩ := t d0 (by rw [i1]; simp)
  have lm := Zf4 ks rss pre [] i3
  have ld : pre.length < ds.length := by rw [i1]; simp
  fail "g"
  refine Zlq c.hr c.hk c.h8 (Zj6 c.hr pre [] (by simp)) i4 (td.fm0 i5) h30 fun H2 x2 => ?_
  have g2 := (x2.lst (by simp) i4)
  cases e : stp ks rss (mad ks rss [] pre) d0 with
  | none =>
   have e1 : mad ks rss [] ds = mad ks rss [] pre := by
    rw [i1, Zkk _ _ _ _ _ i3]
    simp only [mad, e]
   show wS _ _
   fail "i"
   rw [← e1] at g2
   exact q _ _ g2 (Xc _) (i5.trans x2)
  | some x =>
   obtain ⟨s1, s2⟩ := Zhr i3 e
   show wS _ _
   fail "i"
   refine ⟨isl g2, ?_⟩
   fail "g"
   refine Zgv g2 (by simp at lm ⊢; omega) ?_
   fail "g"
   refine ⟨pre ++ [d0], _, _, by rw [i1]; simp, s1, ?_, (i5.trans x2).new (Fm.set (S := [H.length]) (by simp)) (fun q hq _ => by simp at hq; subst hq; exact Xc _), rfl⟩
   rw [Zpg g2, s2]
   simp
   rfl
 ·subst i6
  rw [Xu] at i1
  subst i1
  fail "g"
  exact q _ _ i4 (Xc _) i5
theorem Zsb (c : CR ks rss) (g : H[ps]? = some (.lst ds)) (t : Th k H ds) (h30 : k ≤ 30) (hl : ds.length ≤ 1000) (ok : mok ks rss [] ds = false) (q : ∀ H', Fm [] H H' -> Q (.int ((mad ks rss [] ds).length : Int)) H') : wE (Zea [Zah ks rss, .ref ps] H) Q := by
 refine Za2 rfl ?_
 show wS (Zb5 [some (Zah ks rss), some (.ref ps), none, none] H) _
 unfold Zb5
 fail "g"
 refine Zvv (Zn0 ?_)
 fail "g"
 refine ⟨rfl, Zou c g t h30 hl ok fun H' x => ?_⟩
 fail "g"
 exact q H' x
theorem Zxh (c : CR ks rss) (g : H[ps]? = some (.lst ds)) (t : Th k H ds) (h30 : k ≤ 30) (hl : ds.length ≤ 1000) (ok : mok ks rss [] ds = false) (q : ∀ H', Fm [] H H' -> Q (.bl true) H') : wE (Zfn [Zah ks rss, .ref ps] H) Q := by
 refine Za2 rfl ?_
 show wS (Zc3 [some (Zah ks rss), some (.ref ps), none, none] H) _
 unfold Zc3
 fail "g"
 refine Zvv (Zn0 ?_)
 fail "g"
 refine ⟨rfl, Zou c (appL g) (t.fm (Fm.app _)) h30 hl ok fun H' x => ?_⟩
 fail "g"
 refine Zeg (appL last) last (by simp) ?_
 fail "g"
 refine Zws (ds := [.bl true, .bl true, .bl false, .bl false]) (.cons (.bl true) (.cons (.bl true) (.cons (.bl false) (.cons (.bl false) .nil)))) (by omega) (appL last) last ?_
 fail "g"
 exact q _ ((((((Fm.app _).trans x).trans (Fm.app _)).trans (Fm.app _)).trans (Fm.app _)).trans (Fm.app _))
theorem Zoe : ∀ bs : List Bool, ((bs.map Tbs).any fun z => Ua z (.bool true)) = bs.any id
 | [] => rfl
 | b :: r => by
  rw [Xr, Wde, Wde, Zoe r]
  cases b <;> rfl
theorem Zz8 {p : Nat} {bs : List Bool} (g : H[p]? = some (.lst (bs.map .bl))) (q : Q (.bl (bs.any id)) H) : wE (inD (.bl true) (.ref p) H) Q := by
 have f : Fines (bs.map D.bl) (bs.map Tbs) 0 := by
  clear g q
  induction bs with
  | nil => exact .nil
  | cons b r ih => exact .cons (.bl b) ih
 refine Zxq (.bl true) f (by omega) (by omega) g ?_
 rw [Zoe]
 exact q
theorem Zjg (rss : List (List Int)) : ∃ xs, Fines (rss.map Za1) xs 1 := Fines.of _ fun d hd => by
 obtain ⟨ls, _, rfl⟩ := Xj.mp hd
 exact ⟨_, Fine.tup (Zbe ls)⟩
theorem Zsq {p r : Nat} {made : List (List Int)} (g1 : H[p]? = some (.lst (made.map Za1))) (g2 : H[r]? = some (.lst (made.map Za1))) (hl : ∀ ls ∈ made, ls.length ≤ 1000) (q : ∀ H', Fm [] H H' -> Q (.bl true) H') : wE (Zdg [.ref p, .ref r] H) Q := by
 refine Za2 rfl ?_
 show wS (Zcl [some (.ref p), some (.ref r), none] H) _
 unfold Zcl
 obtain ⟨xs, f⟩ := Zjg made
 fail "i"
 refine w_isi' rfl (tyR g1) (r := true) rfl ?_
 fail "g"
 refine Yb0 f (by omega) g1 g2 ?_
 fail "g"
 refine Zix (fun σ H' => Fm [] H H' ∧ ∃ z, σ = [some (.ref p), some (.ref r), z]) (fun σ H' i => Ztg (i.1.lst (by simp) g1)) _ (fun d hd σ H1 ⟨i1, z, i2⟩ => ?_) _ _ ⟨Fm.refl, _, rfl⟩ fun σ H1 ⟨i1, z, i2⟩ => ?_
 ·subst i2
  obtain ⟨ls, hls, rfl⟩ := Xj.mp hd
  fail "i"
  refine ⟨ls.map .int, [], rfl, ?_⟩
  refine Zj0 (fun _ => .bl false) (fun H' => H' = H1) (fun _ _ => Zfz) _ (fun y hy H2 j => ?_) _ rfl fun H2 j => ?_
  ·obtain ⟨x, _, rfl⟩ := Xj.mp hy
   subst j
   fail "g"
   exact ⟨rfl, rfl⟩
  subst j
  refine ⟨by have := hl ls hls; simp; omega, ?_⟩
  rw [show (ls.map D.int).map (fun _ => D.bl false) = (ls.map fun _ => false).map D.bl by rw [Wbc, Wbc]; rfl]
  refine Zz8 last ?_
  rw [show (ls.map fun _ => false).any id = false by rw [Wej]; simp]
  fail "g"
  exact ⟨i1.trans (Fm.app _), _, rfl⟩
 ·subst i2
  fail "g"
  exact q _ i1
end
variable {σ : SD} {H : HD} {Q : D -> HD -> Prop}
theorem Ts.th {k : Nat} : ∀ {ds : List D} {W : Nat}, Ts [] H k W ds -> Th k H ds
 | [], W, _ => fun d hd => by cases hd
 | a :: r, W, h => fun d hd => by
  obtain ⟨x, y, t1, t2, _⟩ := h.two
  rcases Xn.mp hd with rfl | hd
  ·exact ⟨_, t1⟩
  ·exact Ts.th t2 d hd
section
variable {k W : Nat} {ds : List D}
theorem Ts.list (ts : Ts [] H k W ds) : ∃ xs, Shs xs W k ∧ ∀ H' p, Fm [] H H' -> H'[p]? = some (.lst ds) -> ∀ m, k + 1 ≤ m -> toP H' m (.ref p) = some (.list xs) := by
 obtain ⟨xs, e, s, _⟩ := ts
 refine ⟨xs, s, fun H' p y g m hm => ?_⟩
 match m, hm with
 | m + 1, hm =>
  rw [toP]
  simp only [g, e H' y m (by omega), Wcl]
theorem Ts.reprs (ts : Ts [] H k W ds) (hW : W ≤ 390000) (hk : k ≤ 29) : ∃ t : Str, ∀ H' p, Fm [] H H' -> H'[p]? = some (.lst ds) -> Zko [.ref p] H' = some (.str t, H') := by
 obtain ⟨xs, s, e⟩ := ts.list
 have sh : Sh (.list xs) W (k + 1) := ⟨s.lay, s.sh, Wbn s.dep, s.lv, s.wt⟩
 refine ⟨(Tbt xs).shown, fun H' p y g => ?_⟩
 unfold Zko
 simp only [e H' p y g 30 (by omega), Zb, if_pos (sh.can' hW (by omega))]
theorem Ts.dats (ts : Ts [] H k W ds) (hk : k ≤ 29) : ∃ xs, Tac (.list xs) = true ∧ ∀ H' p, Fm [] H H' -> H'[p]? = some (.lst ds) -> DL.dat (.ref p) H' = some (.list xs) := by
 obtain ⟨xs, s, e⟩ := ts.list
 refine ⟨xs, s.lay, fun H' p y g => ?_⟩
 have d : (Tbt xs).depth ≤ 30 := Xp (Wbn s.dep) (by omega)
 unfold DL.dat
 rw [e H' p y g 30 (by omega)]
 have l : Tac (.list xs) = true := s.lay
 simp [okP, l, d]
end
theorem Zvf (xs : List D) : Zil xs (some (-1)) none = xs.drop (xs.length - 1) := by
 unfold Zil
 have h1 : HT.sIx xs.length 0 (some (-1)) = xs.length - 1 := by
  show (if (-1 : Int) < 0 then ((-1 : Int) + (xs.length : Int)).toNat else min (-1 : Int).toNat xs.length) = xs.length - 1
  rw [if_pos (by omega)]
  omega
 have h2 : HT.sIx xs.length xs.length none = xs.length := rfl
 rw [h1, h2]
 exact Wdw (by simp)
theorem Zvl {p : Nat} {xs : List D} (g : H[p]? = some (.lst xs)) (q : Q (.ref H.length) (H ++ [.lst (xs.drop (xs.length - 1))])) : wE (slD (.ref p) (some (-1)) none H) Q :=
 ⟨_, _, by rw [← Zvf]; simp only [slD, g], q⟩
theorem Zvw {r : Option (FD × SD × HD)} {k : SD -> HD -> Prop} {Z : FD -> SD -> HD -> Prop} (J : SD -> HD -> Prop) (h : wS r (Ztd J Z)) (q : ∀ σ H, J σ H -> k σ H) : wS r (Ztd k Z) := by
 obtain ⟨x, d, H', e, z⟩ := h
 refine ⟨x, d, H', e, ?_⟩
 cases x with
 | nx => exact q _ _ z
 | _ => exact z
theorem Zsm {i m : Int} (q : Q (.bl (decide (0 ≤ i) && decide (i < m))) H) : wE (Zbn [.int i, .int m] H) Q := by
 refine Za2 rfl ?_
 show wS (Zbw [some (.int i), some (.int m)] H) _
 unfold Zbw
 fail "g"
 refine ⟨fun z => ?_, fun z => ?_⟩
 ·fail "g"
  simpa [z] using q
 ·fail "g"
  simpa [z] using q
theorem w_neB {a b : Bool} (q : Q (.bl (!(a == b))) H) : wE (neD (.bl a) (.bl b) H) Q := Zxg (.bl a) (.bl b) (by omega) (by omega) (by cases a <;> cases b <;> exact q)
nonrec def Zs6 (made : List (List Int)) : Bool := match made.getLast? with
 | some ls => ls.isEmpty
 | none => false
theorem Zs7 (ks : List D) (rss : List (List Int)) (ds : List D) : Zpy ks rss ds = (mok ks rss [] ds && Zs6 (mad ks rss [] ds)) := rfl
theorem Zub {p r : Nat} {made : List (List Int)} (g : H[p]? = some (.lst ((made.map Za1).drop ((made.map Za1).length - 1)))) (g2 : H[r]? = some (.lst [.tup []])) (q : Q (.bl (Zs6 made)) H) : wE (eqD (.ref p) (.ref r) H) Q := by
 have f2 : Fines [.tup []] [.tuple []] 1 := .cons (Fine.tup (h := 0) .nil) .nil
 cases em : made.reverse with
 | nil =>
  have e0 : made = [] := by simpa using em
  subst e0
  exact ⟨_, _, Zg2 ((Fines.nil (h := 0)).dat (by omega) g) (f2.dat (by omega) g2), q⟩
 | cons y r =>
  have e0 : made = r.reverse ++ [y] := by
   have := congrArg List.reverse em
   simpa using this
  subst e0
  have el : Zs6 (r.reverse ++ [y]) = y.isEmpty := by unfold Zs6; rw [Wel]
  rw [el] at q
  have ed : ((r.reverse ++ [y]).map Za1).drop (((r.reverse ++ [y]).map Za1).length - 1) = [Za1 y] := by
   rw [Wad]
   simp
  rw [ed] at g
  have f1 : Fines [Za1 y] [.tuple (y.map Tah)] 1 := .cons (Fine.tup (Zbe y)) .nil
  refine ⟨_, _, Zg2 (f1.dat (by omega) g) (f2.dat (by omega) g2), ?_⟩
  rw [show Ua (.list [.tuple (y.map Tah)]) (.list [.tuple []]) = y.isEmpty by cases y <;> simp [Ua, Tab]]
  exact q
section
variable {k W ps : Nat} {ks : List D} {rss : List (List Int)} {ds : List D}
theorem Zyj (c : CR ks rss) (g : H[ps]? = some (.lst ds)) (ts : Ts [] H k W ds) (hW : W ≤ 390000) (hk : k ≤ 29) (hl : ds.length ≤ 1000) (q : ∀ H', Fm [] H H' -> Q (.bl true) H') : wE (Zcg [Zah ks rss, .ref ps] H) Q := by
 obtain ⟨t, ht⟩ := ts.reprs hW hk
 have th := ts.th
 have rl : ∀ ls ∈ mad ks rss [] ds, ls.length ≤ 1000 := fun ls h => by
  have := (Zj6 c.hr ds [] (by simp) ls h).len
  have := c.h8
  omega
 refine Za2 rfl ?_
 show wS (Zba [some (Zah ks rss), some (.ref ps), none, none, none, none, none, none] H) _
 unfold Zba
 fail "g"
 refine Zim c g th (by omega) hl fun p1 H1 g1 l1 x1 => ?_
 fail "g"
 refine Zfd (ht H1 ps x1 (x1.lst (by simp) g)) ?_
 fail "g"
 refine Zka (x1.lst (by simp) g) ?_
 fail "g"
 have X1 : Fm [] H (H1 ++ [.lst ds]) := x1.trans (Fm.app _)
 refine Zr2 c last (th.fm X1) (by omega) hl fun H2 x2 => ?_
 have X2 := X1.trans x2
 have gp : H2[p1]? = some (.lst ((mad ks rss [] ds).map Za1)) := x2.lst (by simp) (appL g1)
 have lenE : (((mad ks rss [] ds).length : Int) == (ds.length : Int)) = mok ks rss [] ds := by
  cases ok : mok ks rss [] ds with
  | true => have := Zf4 ks rss ds [] ok; simp at this; simp [this]
  | false => have := Zsw ks rss ds [] ok; simp at this; simp; omega
 refine w_kn ?_
 refine w_seq (Zm9 (fun σ' H' => Fm [] H H' ∧ H'[p1]? = some (.lst ((mad ks rss [] ds).map Za1)) ∧ σ' = [some (Zah ks rss), some (.ref ps), some (.ref p1), some (.str t), some (.bl (Zpy ks rss ds)), some (.bl (Zpy ks rss ds)), none, none]) ?_ ?_)
 ·fail "g"
  refine Zvl gp ?_
  fail "g"
  refine Zub (appL last) last ?_
  have X4 := (X2.trans (Fm.app (S := []) [DO.lst (((mad ks rss [] ds).map Za1).drop (((mad ks rss [] ds).map Za1).length - 1))])).trans (Fm.app (S := []) [DO.lst [D.tup []]])
  cases le : Zs6 (mad ks rss [] ds) with
  | false =>
   fail "g"
   exact ⟨rfl, X4, appL (appL gp), by rw [Zs7, le, Wdb]; rfl⟩
  | true =>
   fail "g"
   refine w_lenR (X4.lst (by simp) g) ?_
   fail "g"
   refine ⟨rfl, X4, appL (appL gp), ?_⟩
   rw [Zs7, le, Bool.and_true, Xk, lenE]
   rfl
 rintro _ H4 ⟨X4, gp4, rfl⟩
 have gs4 := X4.lst (by simp) g
 fail "i"
 refine Zfd (ht H4 ps X4 gs4) ?_
 fail "g"
 rw [show (t != t) = false by simp]
 fail "g"
 refine w_neB ?_
 rw [show (Zpy ks rss ds == Zpy ks rss ds) = true by simp]
 fail "g"
 refine Zka gs4 ?_
 have X5 : Fm [] H (H4 ++ [.lst ds]) := X4.trans (Fm.app _)
 fail "i"
 rw [Xk, lenE]
 cases ok : mok ks rss [] ds with
 | true =>
  fail "g"
  refine Zki c last (th.fm X5) (by omega) hl ok fun p6 H6 g6 l6 x6 => ?_
  fail "g"
  refine Zsq g6 (x6.lst (by simp) (appL gp4)) rl fun H7 x7 => ?_
  fail "g"
  have X7 := (X5.trans x6).trans x7
  refine Zfd (ht H7 _ X7 (x7.lst (by simp) (x6.lst (by simp) last))) ?_
  fail "g"
  rw [show (t == t) = true by simp]
  exact q _ X7
 | false =>
  have lt := Zsw ks rss ds [] ok
  simp at lt
  fail "g"
  refine Zsb c last (th.fm X5) (by omega) hl ok fun H6 x6 => ?_
  have X6 := X5.trans x6
  fail "i"
  refine w_lenR (X6.lst (by simp) g) ?_
  fail "g"
  refine Zsm ?_
  rw [show (decide ((0 : Int) ≤ ((mad ks rss [] ds).length : Int)) && decide (((mad ks rss [] ds).length : Int) < (ds.length : Int))) = true by simp; omega]
  fail "g"
  refine w_lenR (x6.lst (by simp) (appL gp4)) ?_
  fail "g"
  rw [Xk, show (((mad ks rss [] ds).length : Int) == ((mad ks rss [] ds).length : Int)) = true by simp]
  fail "i"
  refine Zfd (ht H6 _ X6 (x6.lst (by simp) last)) ?_
  fail "g"
  rw [show (t != t) = false by simp]
  fail "g"
  refine Zfd (ht H6 ps X6 (X6.lst (by simp) g)) ?_
  fail "g"
  rw [show (t != t) = false by simp]
  fail "g"
  refine Zka (X6.lst (by simp) g) ?_
  have X8 : Fm [] H (H6 ++ [.lst ds]) := X6.trans (Fm.app _)
  fail "g"
  refine Zxh c last (th.fm X8) (by omega) hl ok fun H9 x9 => ?_
  fail "g"
  exact q _ (X8.trans x9)
end
variable {σ : SD} {H : HD} {Q : D -> HD -> Prop}
nonrec def Zbr (bs : List Bool) : D := .tup (bs.map .bl)
nonrec def rig (bs : List Bool) (l : Int) : Bool := match bs[(Zas l - 1).toNat]? with
 | some b => b == decide (0 < l)
 | none => false
theorem Zq3 {bs : List Bool} {l : Int} (h : 1 ≤ Zas l ∧ Zas l ≤ bs.length) (q : Q (.bl (rig bs l)) H) : wE (Zdb [.int l, Zbr bs] H) Q := by
 refine Za2 rfl ?_
 show wS (Zc5 [some (.int l), some (.tup (bs.map .bl))] H) _
 unfold Zc5
 have li : (Zas l - 1).toNat < bs.length := by omega
 fail "g"
 rw [show Zas l - 1 = (((Zas l - 1).toNat : Nat) : Int) by omega]
 refine w_ixT (Zwp (d := .bl bs[(Zas l - 1).toNat]) (by simp [li])) ?_
 fail "g"
 refine Yax (.bl _) (.bl _) (by omega) (by omega) ?_
 have e : rig bs l = (bs[(Zas l - 1).toNat] == decide (0 < l)) := by
  unfold rig
  rw [Was li]
 fail "g"
 rw [e] at q
 exact q
theorem Zrh {bs : List Bool} {t : Bool} (h : bs.length ≤ 1000) (q : Q (Zbr (bs ++ [t])) H) : wE (Zbb (Zbr bs) (.tup [.bl t]) H) Q :=
 ⟨Zbr (bs ++ [t]), H, by unfold Zbr; rw [adT (by simp; omega), Wad]; rfl, q⟩
theorem Zp6 {n : Nat} (hn : n ≤ 8) (q : ∀ p (pls : List (List Bool)) H', H'[p]? = some (.lst (pls.map Zbr)) -> (∀ bs ∈ pls, bs.length = n) -> pls.length ≤ 256 -> Fm [] H H' -> Q (.ref p) H') : wE (Zfr [.int n] H) Q := by
 refine Za2 rfl ?_
 show wS (Zc1 [some (.int n), none, none, none, none] H) _
 unfold Zc1
 fail "g"
 refine ⟨_, rfl, ⟨by omega, by omega⟩, ?_⟩
 rw [Xy]
 refine Zby (fun d t σ H' => ∃ (pls : List (List Bool)) (p : Nat) (z2 z3 z4 : Option D), d.length + t.length = n ∧ (∀ bs ∈ pls, bs.length = d.length) ∧ pls.length ≤ 2 ^ d.length ∧ H'[p]? = some (.lst (pls.map Zbr)) ∧ Fm [] H H' ∧ σ = [some (.int n), some (.ref p), z2, z3, z4]) (fun _ _ _ _ _ => Zfz) (fun d x t σ H1 ⟨pls, p, z2, z3, z4, i1, i2, i3, i4, i5, i6⟩ => ?_) (fun d σ H1 ⟨pls, p, z2, z3, z4, i1, i2, i3, i4, i5, i6⟩ => ?_) _ [] _ _ ⟨[[]], H.length, _, _, _, by simp [Zaq], by simp, by simp, last, Fm.app _, rfl⟩
 ·subst i6
  have ld : d.length ≤ 7 := by simp at i1; omega
  have lp : pls.length ≤ 128 := Xp i3 (Xp (Wem (by omega) ld) (by decide))
  fail "g"
  refine Zby (fun d' t' σ H' => ∃ (pre r acc : List (List Bool)) (p3 : Nat) (z4 : Option D), pls = pre ++ r ∧ t' = r.map Zbr ∧ (∀ bs ∈ acc, bs.length = d.length + 1) ∧ acc.length = 2 * pre.length ∧ H'[p3]? = some (.lst (acc.map Zbr)) ∧ Fm [] H1 H' ∧ σ = [some (.int n), some (.ref p), some x, some (.ref p3), z4]) (fun d' t' σ H' ⟨pre, r, acc, p3, z4, k1, k2, k3, k4, k5, k6, k7⟩ => Ztg (k6.lst (by simp) i4)) (fun d' y t' σ H2 ⟨pre, r, acc, p3, z4, k1, k2, k3, k4, k5, k6, k7⟩ => ?_) (fun d' σ H2 ⟨pre, r, acc, p3, z4, k1, k2, k3, k4, k5, k6, k7⟩ => ?_) _ [] _ _ ⟨[], pls, [], H1.length, _, rfl, rfl, by simp, rfl, last, Fm.app _, rfl⟩
  ·subst k7
   cases r with
   | nil => cases k2
   | cons bs r =>
    obtain ⟨rfl, rfl⟩ := Way.inj k2
    have lb := i2 bs (by rw [k1]; simp)
    have lpr : pre.length ≤ 128 := by rw [k1] at lp; simp at lp; omega
    fail "g"
    refine Zrh (by omega) ?_
    fail "g"
    refine Zrh (by omega) ?_
    fail "g"
    refine Zeg (appL k5) last (by simp; omega) ?_
    fail "g"
    refine ⟨pre ++ [bs], r, acc ++ [bs ++ [false], bs ++ [true]], _, _, by rw [k1]; simp, rfl, fun b hb => ?_, by simp; omega, by rw [Wad]; exact last, (k6.trans (Fm.app _)).trans (Fm.app _), rfl⟩
    rcases Xs.mp hb with z | z
    ·exact k3 b z
    ·simp at z
     rcases z with rfl | rfl <;> simp [lb]
  ·subst k7
   cases r with
   | cons bs r => cases k2
   | nil =>
    rw [Xu] at k1
    subst k1
    fail "g"
    refine ⟨acc, p3, _, _, _, by simp at i1 ⊢; omega, by simpa using k3, ?_, k5, i5.trans k6, rfl⟩
    rw [Wap, Wea, Nat.pow_succ, k4]
    omega
 ·subst i6
  simp at i1
  fail "g"
  exact q p pls H1 i4 (by rw [← i1]; exact i2) (Xp i3 (Xp (Wem (by omega) (show d.length ≤ 8 by omega)) (by decide))) i5
nonrec def keeps (rss : List (List Int)) (bs : List Bool) : Bool := rss.all fun row => row.any (rig bs)
section
variable {ks : List D} {rss : List (List Int)} {bs : List Bool}
theorem Zwm {row : List Int} {s : List D} {H : HD} {Q : List D -> HD -> Prop} (hr : R ks.length row) (hb : bs.length = ks.length) (q : Q ((row.filter (rig bs)).map .int) H) :
  wA (Zeo [] [some (Zbr bs)] (Ze4 (Zam 2 Zdb (Zaa (Zac 0) (Zaa (Zac 1) Zae)))) (Zac 0) (row.map .int) H) Q := by
 refine Zb1 (fun d => rig bs (Zkp d)) (fun H' => H' = H) (fun _ j => Zfz) _ (fun y hy H3 j => ?_) _ rfl fun H3 j => ?_
 ·obtain ⟨z, hz, rfl⟩ := Xj.mp hy
  subst j
  fail "g"
  refine Zq3 (by rw [hb]; exact hr.rg z hz) ?_
  fail "g"
  exact ⟨rfl, rfl⟩
 ·subst j
  have ef : (row.map D.int).filter (fun d => rig bs (Zkp d)) = (row.filter (rig bs)).map .int := by
   rw [Wbh]
   rfl
  rw [ef]
  exact q
theorem Zum (h8 : ks.length ≤ 8) (hr : ∀ ls ∈ rss, R ks.length ls) (hb : bs.length = ks.length) (q : ∀ H', Fm [] H H' -> Q (.bl (!keeps rss bs)) H') : wE (Zg1 [.tup (rss.map Za1), Zbr bs] H) Q := by
 refine Za2 rfl ?_
 show wS (Zdx [some (.tup (rss.map Za1)), some (Zbr bs), none] H) _
 unfold Zdx
 fail "g"
 refine Zby (fun d t σ H' => ∃ (pre rs : List (List Int)) (z2 : Option D), rss = pre ++ rs ∧ t = rs.map Za1 ∧ keeps pre bs = true ∧ Fm [] H H' ∧ σ = [some (.tup (rss.map Za1)), some (Zbr bs), z2]) (fun _ _ _ _ _ => Zfz) (fun d x t σ H2 ⟨pre, rs, z2, i1, i2, i3, i4, i5⟩ => ?_) (fun d σ H2 ⟨pre, rs, z2, i1, i2, i3, i4, i5⟩ => ?_) _ [] _ _ ⟨[], rss, _, rfl, rfl, rfl, Fm.refl, rfl⟩
 ·subst i5
  cases rs with
  | nil => cases i2
  | cons row rs =>
   obtain ⟨rfl, rfl⟩ := Way.inj i2
   have rr := hr row (by rw [i1]; simp)
   have lr := rr.len
   fail "i"
   refine ⟨row.map .int, [], rfl, ?_⟩
   refine Zwm (s := []) rr hb ?_
   refine ⟨by have := Waj (rig bs) row; simp at this ⊢; omega, ?_⟩
   fail "g"
   refine Zkg (Zbe (row.filter (rig bs))) (by omega) (appL last) last ?_
   have ee : ((row.filter (rig bs)).map D.int).isEmpty = !row.any (rig bs) := by
    cases v : row.any (rig bs) with
    | true =>
     obtain ⟨l, h1, h2⟩ := Wau.mp v
     cases w : row.filter (rig bs) with
     | nil => exact absurd (Wac.mpr ⟨h1, h2⟩) (by rw [w]; simp)
     | cons a b => rfl
    | false =>
     have : row.filter (rig bs) = [] := Wcv.mpr fun l hl => Wbz.mp v l hl
     rw [this]; rfl
   rw [ee]
   have X3 := (i4.trans (Fm.app (S := []) [DO.lst ((row.filter (rig bs)).map D.int)])).trans (Fm.app (S := []) [DO.lst []])
   fail "g"
   cases v : row.any (rig bs) with
   | false =>
    have e : keeps rss bs = false := by
     unfold keeps
     rw [i1, Wdi, Wdr, v]
     simp
    have q := q _ X3
    rw [e] at q
    fail "g"
    exact q
   | true =>
    fail "g"
    refine ⟨pre ++ [row], rs, _, by rw [i1]; simp, rfl, ?_, X3, rfl⟩
    unfold keeps at i3 ⊢
    rw [Wdi, i3, Wdr, v]
    rfl
 ·subst i5
  cases rs with
  | cons row rs => cases i2
  | nil =>
   rw [Xu] at i1
   subst i1
   have q := q H2 i4
   rw [i3] at q
   fail "g"
   exact q
end
variable {σ : SD} {H : HD} {Q : D -> HD -> Prop}
theorem Zf2 {p : Nat} {xs : List D} {r n : Int} (g : H[p]? = some (.lst xs)) (hn : n = xs.length) (h0 : 0 < n) (q : ∀ d ∈ xs, Q d H) : wE (ixD (.ref p) (.int (r % n)) H) Q := by
 have m0 := Wah r (show n ≠ 0 by omega)
 have m1 := Wab r h0
 obtain ⟨i, hi⟩ : ∃ i : Nat, r % n = i := ⟨(r % n).toNat, by omega⟩
 rw [hi] at m1 ⊢
 have li : i < xs.length := by omega
 exact w_ixR g (Zef (Was li)) (q _ (Wag li))
theorem Ybo {x : Int} {p : Nat} {ls : List Int} (g : H[p]? = some (.lst (ls.map .int))) (q : Q (.bl (decide (x ∈ ls))) H) : wE (inD (.int x) (.ref p) H) Q := Zxq (.int x) (Zbe ls) (by omega) (by omega) g (by rw [Zkj]; exact q)
structure Rt (bs : List Bool) (fs : List Int) : Prop where
 nd : fs.Nodup
 rt : ∀ x ∈ fs, rig bs x = true ∧ 1 ≤ Zas x ∧ Zas x ≤ bs.length
theorem Rt.nil {bs : List Bool} : Rt bs [] := ⟨.nil, by simp⟩
theorem Rt.snoc {bs : List Bool} {fs : List Int} {l : Int} (h : Rt bs fs) (hn : l ∉ fs) (hr : rig bs l = true ∧ 1 ≤ Zas l ∧ Zas l ≤ bs.length) : Rt bs (fs ++ [l]) := by
 refine ⟨?_, fun x hx => ?_⟩
 ·rw [Wbj]
  refine ⟨h.nd, by simp, fun a ha b hb e => ?_⟩
  simp at hb
  subst hb e
  exact hn ha
 ·rcases Xs.mp hx with z | z
  ·exact h.rt x z
  ·simp at z; subst z; exact hr
theorem Zy6 {bs : List Bool} {x y : Int} (hx : rig bs x = true) (hy : rig bs y = true) (px : 1 ≤ Zas x) (e : Zas x = Zas y) : x = y := by
 unfold rig at hx hy
 rw [e] at hx
 cases g : bs[(Zas y - 1).toNat]? with
 | none => rw [g] at hx; cases hx
 | some b =>
  rw [g] at hx hy
  have h1 : b = decide (0 < x) := eq_of_beq hx
  have h2 : b = decide (0 < y) := eq_of_beq hy
  rw [h1] at h2
  have h3 : (0 < x) ↔ (0 < y) := by
   constructor
   ·intro z; rw [decide_eq_true z] at h2; exact of_decide_eq_true h2.symm
   ·intro z; rw [decide_eq_true z] at h2; exact of_decide_eq_true h2
  rcases Zm3 e with z | z
  ·exact z
  ·unfold Zas at px e
   split at px <;> omega
theorem Zwb {bs : List Bool} : ∀ fs : List Int, fs.Nodup -> (∀ x ∈ fs, rig bs x = true ∧ 1 ≤ Zas x ∧ Zas x ≤ bs.length) -> (fs.map Zas).Nodup
 | [], _, _ => .nil
 | x :: r, nd, h => by
  rw [Xr, Wbf]
  rw [Wbf] at nd
  refine ⟨fun z => ?_, Zwb r nd.2 fun y hy => h y (by simp [hy])⟩
  obtain ⟨y, hy, e⟩ := Xj.mp z
  have := Zy6 (h y (by simp [hy])).1 (h x (by simp)).1 (h y (by simp [hy])).2.1 e
  subst this
  exact nd.1 hy
theorem Rt.r {bs : List Bool} {fs : List Int} (h : Rt bs fs) : R bs.length fs := ⟨Zwb fs h.nd h.rt, fun x hx => (h.rt x hx).2⟩
theorem Zop : ∀ l : List Int, l.Pairwise (· ≤ ·) -> l.Nodup -> l.Pairwise (· < ·)
 | [], _, _ => .nil
 | x :: r, p, nd => by
  rw [Wdk] at p ⊢
  rw [Wbf] at nd
  refine ⟨fun y hy => ?_, Zop r p.2 nd.2⟩
  have := p.1 y hy
  have : x ≠ y := fun z => nd.1 (z ▸ hy)
  omega
theorem Zt3 {M : Nat} {fs : List Int} (h : R M fs) : Up M 0 (Zco fs) := by
 have h2 := h.perm (Zcc fs)
 refine Zz4 _ 0 (Zop _ ?_ h2.nd) fun x hx => ?_
 ·have := Znx fs
  rw [Wdp]
  exact this
 ·obtain ⟨y, hy, rfl⟩ := Xj.mp hx
  have := h2.rg y hy
  omega
section
variable {ks : List D} {rss : List (List Int)} {bs : List Bool} {ds : List Int} {pd : Nat}
theorem Zvc (h8 : ks.length ≤ 8) (hr : ∀ ls ∈ rss, R ks.length ls) (hb : bs.length = ks.length) (hkp : keeps rss bs = true) (gd : H[pd]? = some (.lst (ds.map .int))) (hd : Zqx ds) (h3 : 3 ≤ ds.length)
  (q : ∀ ls H', Fm [] H H' -> Up ks.length 0 ls -> (∀ row ∈ rss, ∃ l ∈ row, l ∈ ls) -> Q (Za1 ls) H') : wE (Zg4 [Zah ks rss, Zbr bs, .ref pd] H) Q := by
 refine Za2 rfl ?_
 show wS (Zd7 [some (Zah ks rss), some (Zbr bs), some (.ref pd), none, none, none, none, none, none] H) _
 unfold Zd7
 fail "g"
 refine Zby (fun d t σ H' => ∃ (pre rs : List (List Int)) (fs : List Int) (z4 z5 : Option D), rss = pre ++ rs ∧ t = rs.map Za1 ∧ Rt bs fs ∧ (∀ row ∈ pre, ∃ l ∈ row, l ∈ fs) ∧ H'[H.length]? = some (.lst (fs.map .int)) ∧ Fm [] H H' ∧ σ = [some (Zah ks rss), some (Zbr bs), some (.ref pd), some (.ref H.length), z4, z5, none, none, none]) (fun _ _ _ _ _ => Zfz) (fun d x t σ H2 ⟨pre, rs, fs, z4, z5, i1, i2, i3, i4, i5, i6, i7⟩ => ?_) (fun d σ H2 ⟨pre, rs, fs, z4, z5, i1, i2, i3, i4, i5, i6, i7⟩ => ?_) _ [] _ _ ⟨[], rss, [], _, _, rfl, rfl, Rt.nil, by simp, last, Fm.app _, rfl⟩
 ·subst i7
  cases rs with
  | nil => cases i2
  | cons row rs =>
   obtain ⟨rfl, rfl⟩ := Way.inj i2
   have rr := hr row (by rw [i1]; simp)
   have lr := rr.len
   have lf := i3.r.len
   fail "g"
   refine ⟨row.map .int, [], rfl, ?_⟩
   refine Zwm (s := []) rr hb ?_
   have lh := Waj (rig bs) row
   refine ⟨by simp; omega, ?_⟩
   have hne : 0 < (row.filter (rig bs)).length := by
    unfold keeps at hkp
    obtain ⟨l, h1, h2⟩ := Wau.mp (Wao.mp hkp row (by rw [i1]; simp))
    exact List.length_pos_of_mem (Wac.mpr ⟨h1, h2⟩)
   have hin : ∀ l ∈ row.filter (rig bs), l ∈ row ∧ rig bs l = true ∧ 1 ≤ Zas l ∧ Zas l ≤ bs.length := fun l hl => by
    obtain ⟨h1, h2⟩ := Wac.mp hl
    have := rr.rg l h1
    exact ⟨h1, h2, by omega, by omega⟩
   generalize row.filter (rig bs) = he at lh hne hin
   fail "i"
   refine Zb1 (fun d => decide (Zkp d ∈ fs)) (fun H' => H' = H2 ++ [.lst (he.map .int)]) (fun _ j => by rw [j]; exact Ztg last) _ (fun y hy H3 j => ?_) _ rfl fun H3 j => ?_
   ·obtain ⟨z, hz, rfl⟩ := Xj.mp hy
    subst j
    fail "g"
    refine Ybo (appL i5) ?_
    exact ⟨_, rfl, rfl, rfl⟩
   subst j
   have ef : (he.map D.int).filter (fun d => decide (Zkp d ∈ fs)) = (he.filter fun l => decide (l ∈ fs)).map .int := by
    rw [Wbh]
    rfl
   rw [ef]
   refine ⟨by have := Waj (fun l => decide (l ∈ fs)) he; simp at this ⊢; omega, ?_⟩
   fail "g"
   refine Zkg (Zbe (he.filter fun l => decide (l ∈ fs))) (by omega) (appL last) last ?_
   have X3 := ((i6.trans (Fm.app (S := []) [DO.lst (he.map .int)])).trans (Fm.app (S := []) [DO.lst ((he.filter fun l => decide (l ∈ fs)).map D.int)])).trans (Fm.app (S := []) [DO.lst []])
   fail "g"
   cases v : (he.filter fun l => decide (l ∈ fs)) with
   | nil =>
    rw [v] at X3
    fail "g"
    refine ⟨isl (appL (appL (appL i5))), ?_⟩
    fail "g"
    refine Zay (X3.lst (by simp) gd) hd (by omega) (by omega) fun u u0 u1 => ?_
    fail "g"
    rw [Xk]
    refine w_mod (by omega) ?_
    refine Zf2 (appL (appL last)) (by simp) (by omega) fun e he2 => ?_
    obtain ⟨l, hl, rfl⟩ := Xj.mp he2
    obtain ⟨h1, h2, h3', h4⟩ := hin l hl
    fail "g"
    refine Zgv (appL (appL (appL i5))) (by simp; omega) ?_
    fail "g"
    have ln : l ∉ fs := fun z => by
     have : l ∈ he.filter fun l => decide (l ∈ fs) := Wac.mpr ⟨hl, decide_eq_true z⟩
     rw [v] at this
     cases this
    refine ⟨pre ++ [row], rs, fs ++ [l], _, _, by rw [i1]; simp, rfl, i3.snoc ln ⟨h2, h3', h4⟩, fun r hr2 => ?_, by rw [Zpg (appL (appL (appL i5)))]; simp, X3.new (Fm.set (S := [H.length]) (by simp)) (fun q hq _ => by simp at hq; subst hq; exact Xc _), rfl⟩
    rcases Xs.mp hr2 with z | z
    ·obtain ⟨y, y1, y2⟩ := i4 r z
     exact ⟨y, y1, Wal _ y2⟩
    ·simp at z; subst z; exact ⟨l, h1, by simp⟩
   | cons l0 r0 =>
    rw [v] at X3
    fail "g"
    refine ⟨pre ++ [row], rs, fs, _, _, by rw [i1]; simp, rfl, i3, fun r hr2 => ?_, appL (appL (appL i5)), X3, rfl⟩
    rcases Xs.mp hr2 with z | z
    ·exact i4 r z
    ·simp at z; subst z
     have : l0 ∈ he.filter fun l => decide (l ∈ fs) := by rw [v]; simp
     obtain ⟨y1, y2⟩ := Wac.mp this
     exact ⟨l0, (hin l0 y1).1, of_decide_eq_true y2⟩
 subst i7
 cases rs with
 | cons row rs => cases i2
 | nil =>
  rw [Xu] at i1
  subst i1
  fail "g"
  refine ⟨_, rfl, ?_⟩
  refine Zby (fun d t σ H' => ∃ (pre r : List Bool) (fs : List Int) (z6 z7 z8 : Option D), bs = pre ++ r ∧ t = Zb9 (pre.length : Int) (r.map .bl) ∧ Rt bs fs ∧ (∀ row ∈ rss, ∃ l ∈ row, l ∈ fs) ∧ H'[H.length]? = some (.lst (fs.map .int)) ∧ Fm [] H H' ∧ σ = [some (Zah ks rss), some (Zbr bs), some (.ref pd), some (.ref H.length), z4, z5, z6, z7, z8]) (fun _ _ _ _ _ => Zfz) (fun d x t σ H3 ⟨pre, r, fs, z6, z7, z8, k1, k2, k3, k4, k5, k6, k7⟩ => ?_) (fun d σ H3 ⟨pre, r, fs, z6, z7, z8, k1, k2, k3, k4, k5, k6, k7⟩ => ?_) _ [] _ _ ⟨[], bs, fs, _, _, _, rfl, rfl, i3, i4, i5, i6, rfl⟩
  ·subst k7
   cases r with
   | nil => cases k2
   | cons b r =>
    rw [Xr, Zew] at k2
    obtain ⟨rfl, rfl⟩ := Way.inj k2
    have lf := k3.r.len
    have lp : pre.length < bs.length := by rw [k1]; simp
    have hbk : bs[pre.length]? = some b := by rw [k1]; simp
    have tl : Zb9 ((pre.length + 1 : Nat) : Int) (r.map .bl) = Zb9 (((pre ++ [b]).length : Nat) : Int) (r.map .bl) := by simp
    obtain ⟨l, hl, hat, hrg⟩ : ∃ l : Int, Zas l = (pre.length : Int) + 1 ∧ atI [D.int (0 - (pre.length : Int) - 1), .int ((pre.length : Int) + 1)] (if b then 1 else 0) = some (.int l) ∧ rig bs l = true := by
     cases b with
     | false =>
      refine ⟨0 - (pre.length : Int) - 1, by unfold Zas; split <;> omega, rfl, ?_⟩
      unfold rig
      rw [show (Zas (0 - (pre.length : Int) - 1) - 1).toNat = pre.length by unfold Zas; split <;> omega, hbk]
      show (false == decide (0 < 0 - (pre.length : Int) - 1)) = true
      rw [decide_eq_false (by omega)]; rfl
     | true =>
      refine ⟨(pre.length : Int) + 1, by unfold Zas; split <;> omega, rfl, ?_⟩
      unfold rig
      rw [show (Zas ((pre.length : Int) + 1) - 1).toNat = pre.length by unfold Zas; split <;> omega, hbk]
      show (true == decide (0 < (pre.length : Int) + 1)) = true
      rw [decide_eq_true (by omega)]; rfl
    fail "g"
    refine w_ixR last hat ?_
    have X4 := k6.trans (Fm.app (S := []) [DO.lst [D.int (0 - (pre.length : Int) - 1), .int ((pre.length : Int) + 1)]])
    fail "i"
    refine Zay (X4.lst (by simp) gd) hd (by omega) (by omega) fun u u0 u1 => ?_
    fail "g"
    refine w_fdiv (by omega) (by omega) ?_
    fail "g"
    have keep : ∀ (z8 : Option D), ∃ (pre' r' : List Bool) (fs' : List Int) (y6 y7 y8 : Option D), bs = pre' ++ r' ∧ Zb9 ((pre.length + 1 : Nat) : Int) (r.map .bl) = Zb9 (pre'.length : Int) (r'.map .bl) ∧ Rt bs fs' ∧ (∀ row ∈ rss, ∃ l ∈ row, l ∈ fs') ∧ (H3 ++ [DO.lst [D.int (0 - (pre.length : Int) - 1), .int ((pre.length : Int) + 1)]])[H.length]? = some (.lst (fs'.map .int)) ∧ Fm [] H (H3 ++ [DO.lst [D.int (0 - (pre.length : Int) - 1), .int ((pre.length : Int) + 1)]]) ∧ [some (Zah ks rss), some (Zbr bs), some (.ref pd), some (.ref H.length), z4, z5, some (.int (pre.length : Int)), some (.bl b), z8] = [some (Zah ks rss), some (Zbr bs), some (.ref pd), some (.ref H.length), z4, z5, y6, y7, y8] := fun z8 => ⟨pre ++ [b], r, fs, _, _, _, by rw [k1]; simp, tl, k3, k4, appL k5, X4, rfl⟩
    refine ⟨fun v => ?_, fun v => ?_⟩
    ·fail "g"
     refine Zvz (appL k5) ?_
     fail "g"
     cases w : decide (l ∈ fs) with
     | true => fail "g"; exact keep _
     | false =>
      have ln := of_decide_eq_false w
      fail "g"
      refine ⟨isl (appL k5), ?_⟩
      fail "g"
      refine Zgv (appL k5) (by simp; omega) ?_
      fail "g"
      refine ⟨pre ++ [b], r, fs ++ [l], _, _, _, by rw [k1]; simp, tl, k3.snoc ln ⟨hrg, by omega, by omega⟩, fun row h => ?_, by rw [Zpg (appL k5)]; simp, X4.new (Fm.set (S := [H.length]) (by simp)) (fun q hq _ => by simp at hq; subst hq; exact Xc _), rfl⟩
      obtain ⟨y, y1, y2⟩ := k4 row h
      exact ⟨y, y1, Wal _ y2⟩
    ·fail "g"
     exact keep _
  ·subst k7
   cases r with
   | cons b r => rw [Xr, Zew] at k2; cases k2
   | nil =>
    have rf := k3.r
    have lf := rf.len
    fail "g"
    refine Zr9 k5 (by omega) rf.nd ?_
    fail "g"
    rw [hb] at rf
    refine q (Zco fs) _ (k6.trans (Fm.app _)) (Zt3 rf) fun row h => ?_
    obtain ⟨l, h1, h2⟩ := k4 row h
    exact ⟨l, h1, (Zcc fs).mem_iff.mpr h2⟩
end
variable {σ : SD} {H : HD} {Q : D -> HD -> Prop}
section
variable {k W ps : Nat} {ks : List D} {rss : List (List Int)} {ds : List D}
theorem Ybb (c : CR ks rss) (g : H[ps]? = some (.lst ds)) (ts : Ts [] H k W ds) (hk : k ≤ 29) (hl : ds.length ≤ 1000) (ok : mok ks rss [] ds = true) (q : ∀ H', Fm [] H H' -> Q (.bl true) H') : wE (Zcs [Zah ks rss, .ref ps] H) Q := by
 obtain ⟨xs, lay, hd⟩ := ts.dats hk
 have th := ts.th
 have rl : ∀ ls ∈ mad ks rss [] ds, ls.length ≤ 1000 := fun ls h => by
  have := (Zj6 c.hr ds [] (by simp) ls h).len
  have := c.h8
  omega
 have lm := Zf4 ks rss ds [] ok
 refine Za2 rfl ?_
 show wS (Zbf [some (Zah ks rss), some (.ref ps), none, none, none, none] H) _
 unfold Zbf
 fail "g"
 refine Zim c g th (by omega) hl fun p1 H1 g1 l1 x1 => ?_
 fail "g"
 refine Zka (x1.lst (by simp) g) ?_
 have X1 : Fm [] H (H1 ++ [.lst ds]) := x1.trans (Fm.app _)
 fail "g"
 refine ⟨_, rfl, ⟨by omega, by omega⟩, ?_⟩
 refine Zix (fun σ H' => Fm [] H H' ∧ H'[p1]? = some (.lst ((mad ks rss [] ds).map Za1)) ∧ H'[H1.length]? = some (.lst ds) ∧ ∃ z4 z5, σ = [some (Zah ks rss), some (.ref ps), some (.ref p1), some (.ref H1.length), z4, z5]) (fun _ _ _ => Zfz) _ (fun d hd0 σ H2 ⟨i1, i2, i3, z4, z5, i4⟩ => ?_) _ _ ⟨X1, appL g1, last, _, _, rfl⟩ fun σ H2 ⟨i1, i2, i3, z4, z5, i4⟩ => ?_
 ·subst i4
  fail "g"
  refine Zki c i3 (th.fm i1) (by omega) hl ok fun p6 H6 g6 l6 x6 => ?_
  fail "i"
  refine Zsq g6 (x6.lst (by simp) i2) rl fun H7 x7 => ?_
  have X7 := (i1.trans x6).trans x7
  have y67 := x6.trans x7
  fail "g"
  refine ⟨_, _, Zgp (hd H7 H1.length X7 (y67.lst (by simp) i3)) (hd H7 ps X7 (X7.lst (by simp) g)), ?_⟩
  rw [Zhy (.list xs) lay]
  fail "g"
  have g7 := x7.lst (by simp) g6
  refine ⟨isl g7, ?_⟩
  fail "g"
  refine Zgv g7 (by simp at lm ⊢; omega) ?_
  fail "g"
  have n1 : p6 ≠ p1 := by have := (Xd.mp i2).1; omega
  have n2 : p6 ≠ H1.length := by have := (Xd.mp i3).1; omega
  refine ⟨X7.new (Fm.set (S := [p6]) (by simp)) (fun q hq _ => by simp at hq; subst hq; have := i1.len; omega), Zxj n1 (y67.lst (by simp) i2), Zxj n2 (y67.lst (by simp) i3), _, _, rfl⟩
 ·subst i4
  fail "g"
  exact q _ i1
end
theorem shN : ∀ j : Fin 1200, (Tbz (.int (j.val : Int))).length ≤ 40 ∧ ((Tah (j.val : Int)).showable = true) ∧ (Tah (j.val : Int)).weight ≤ 40 := by decide +kernel
theorem T.nat {k : Nat} {i : Nat} (h : i < 1200) : T [] H k 40 (.int i) := by
 have h := shN ⟨i, h⟩
 exact ⟨.int i, fun H' _ m _ => Zgo H' m i, rfl, h.2.1, Wak _, by simp only [Tav]; exact decide_eq_true h.1, h.2.2⟩
def Tm (d : D) : Prop := ∀ H : HD, T [] H 2 400 d
theorem tm2 {s : Str} {i : Nat} (h : (s.cps.toList.all fun c => decide (c < 0x110000)) = true) (h2 : (s.cps.toList.all fun c => decide (c < 16 ^ 8)) = true) (h3 : s.cps.size ≤ 40) (hi : i < 1200) : Tm (.tup [.str s, .int i]) := fun H =>
 (T.tup (Ts.cons (T.str (k := 0) h h2 h3) (Ts.cons (T.nat hi) (Ts.nil (w := 0))))).le (by omega) (by omega)
theorem tm4 {i j n : Nat} (hi : i < 1200) (hj : j < 1200) (hn : n < 1200) : Tm (.tup [.str "joined", .int i, .int j, .int n]) := fun H =>
 (T.tup (Ts.cons (T.str (k := 0) (by decide) (by decide) (by decide)) (Ts.cons (T.nat hi) (Ts.cons (T.nat hj) (Ts.cons (T.nat hn) (Ts.nil (w := 0))))))).le (by omega) (by omega)
structure Gd (d : D) : Prop where
 tm : Tm d
 sh : ∃ a b r, d = .tup (a :: b :: r) ∧ r.length ≤ 10
theorem Zov {p r : Nat} {made : List (List Int)} (g1 : H[p]? = some (.lst (made.map Za1))) (g2 : H[r]? = some (.lst [])) (q : Q (.bl (!made.isEmpty)) H) : wE (neD (.ref p) (.ref r) H) Q := by
 obtain ⟨xs, f⟩ := Zjg made
 exact Zss f (by omega) g1 g2 (by cases made <;> exact q)
theorem Zjr : ∀ ls : List Int, (∀ x ∈ ls, Zas x ≤ 8) -> Ts [] H 0 (ls.length * 41) (ls.map .int)
 | [], _ => Ts.nil
 | l :: r, h => by
  have hl := h l (by simp)
  have : -206 ≤ l ∧ l ≤ 206 := by unfold Zas at hl; split at hl <;> omega
  exact (Ts.cons (T.int (k := 0) this.1 this.2) (Zjr r fun x hx => h x (by simp [hx]))).le (Xc _) (by simp; omega)
theorem t_row {M : Nat} {ls : List Int} (h : R M ls) (h8 : M ≤ 8) : T [] H 1 340 (Za1 ls) := by
 have l := h.len
 exact (T.tup (Zjr ls fun x hx => by have := (h.rg x hx).2; omega)).le (Xc _) (by omega)
theorem tmT {M : Nat} {ls : List Int} (h : R M ls) (h8 : M ≤ 8) : Tm (.tup [.str "term", Za1 ls]) := fun H =>
 (T.tup (Ts.cons (T.str (k := 1) (x := "term") (by decide) (by decide) (by decide)) (Ts.cons (t_row h h8) (Ts.nil (w := 0))))).le (by omega) (by omega)
theorem Zsp (bs : List Bool) : Fines (bs.map D.bl) (bs.map Tbs) 0 := by
 induction bs with
 | nil => exact .nil
 | cons b r ih => exact .cons (.bl b) ih
theorem Znh (pls : List (List Bool)) : ∃ xs, Fines (pls.map Zbr) xs 1 := Fines.of _ fun d hd => by
 obtain ⟨bs, _, rfl⟩ := Xj.mp hd
 exact ⟨_, Fine.tup (Zsp bs)⟩
section
variable {pm pd pp : Nat} {ks : List D} {rss made : List (List Int)} {ds : List Int} {pls : List (List Bool)}
theorem Zyk (c : CR ks rss) (hm : ∀ ls ∈ made, R ks.length ls) (hl : made.length ≤ 100) (gm : H[pm]? = some (.lst (made.map Za1))) (gp : H[pp]? = some (.lst (pls.map Zbr))) (hp : ∀ bs ∈ pls, bs.length = ks.length ∧ keeps rss bs = true) (lp : pls.length ≤ 256) (gd : H[pd]? = some (.lst (ds.map .int))) (hd : Zqx ds) (h8' : 8 ≤ ds.length)
  (q0 : ∀ H', Fm [] H H' -> Q .non H') (q : ∀ d x H', Fm [] H H' -> stp ks rss made d = some x -> Gd d -> Q d H') : wE (Zcr [Zah ks rss, .ref pm, .ref pp, .ref pd] H) Q := by
 have h8 := c.h8
 refine Za2 rfl ?_
 show wS (Zbi [some (Zah ks rss), some (.ref pm), some (.ref pp), some (.ref pd), none, none, none, none, none] H) _
 unfold Zbi
 refine w_seq (Zvw (fun σ' H' => Fm [] H H' ∧ σ' = [some (Zah ks rss), some (.ref pm), some (.ref pp), some (.ref pd), none, none, none, none, none]) ?_ ?_)
 ·(refine WP.w_if ?_; fail "g")
  refine Zay gd hd (by omega) (by omega) fun u u0 u1 => ?_
  fail "g"
  refine ⟨fun v => ?_, fun v => ?_⟩
  ·fail "g"
   refine Zov (appL gm) last ?_
   have X1 : Fm [] H (H ++ [.lst []]) := Fm.app _
   fail "g"
   cases em : made.isEmpty with
   | true => fail "g"; exact ⟨X1, rfl⟩
   | false =>
    have lm : 0 < made.length := by cases made with | nil => cases em | cons a b => simp
    fail "g"
    refine Zay (appL gd) hd (by omega) (by omega) fun u2 u20 u21 => ?_
    fail "g"
    rw [Xk]
    refine w_mod (by omega) ?_
    fail "g"
    have m0 := Wah u2 (show (made.length : Int) ≠ 0 by omega)
    have m1 := Wab u2 (show 0 < (made.length : Int) by omega)
    obtain ⟨i, hi⟩ : ∃ i : Nat, u2 % (made.length : Int) = i := ⟨(u2 % (made.length : Int)).toNat, by omega⟩
    rw [hi] at m1 ⊢
    exact q _ _ _ X1 (Zoo (i := i) (by omega)) ⟨tm2 (by decide) (by decide) (by decide) (by omega), _, _, _, rfl, by simp⟩
  ·fail "g"
   exact ⟨Fm.refl, rfl⟩
 rintro _ H' ⟨x, rfl⟩
 refine w_seq (Zvw (fun σ' H' => Fm [] H H' ∧ ∃ z4 z5 z6 z7 z8, σ' = [some (Zah ks rss), some (.ref pm), some (.ref pp), some (.ref pd), z4, z5, z6, z7, z8]) ?_ ?_)
 ·(refine WP.w_if ?_; fail "g")
  refine Zay (x.lst (by simp) gd) hd (by omega) (by omega) fun u u0 u1 => ?_
  fail "g"
  refine ⟨fun v => ?_, fun v => ?_⟩
  ·fail "g"
   refine Zov (appL (x.lst (by simp) gm)) last ?_
   have X1 : Fm [] H (H' ++ [.lst []]) := x.trans (Fm.app _)
   fail "g"
   cases em : made.isEmpty with
   | true => fail "g"; exact ⟨X1, _, _, _, _, _, rfl⟩
   | false =>
    have lm : 0 < made.length := by cases made with | nil => cases em | cons a b => simp
    refine w_bnt ?_
    refine w_seq (w_set (Zqp c.hk c.h8 ?_))
    have X2 : Fm [] H (H' ++ [.lst []] ++ [.lst ((nms ks).map .int)]) := X1.trans (Fm.app _)
    have gN : (H' ++ [.lst []] ++ [.lst ((nms ks).map .int)])[(H' ++ [DO.lst []]).length]? = some (.lst ((nms ks).map .int)) := last
    generalize (H' ++ [.lst []] ++ [.lst ((nms ks).map .int)]) = H2 at X2 gN ⊢
    generalize (H' ++ [DO.lst []]).length = pN at gN ⊢
    fail "g"
    refine w_lenR (X2.lst (by simp) gm) ?_
    fail "g"
    rw [Xk]
    refine ⟨_, rfl, ⟨by omega, by omega⟩, ?_⟩
    rw [Xy]
    refine Zix (fun σ H' => Fm [] H H' ∧ H'[pN]? = some (.lst ((nms ks).map .int)) ∧ ∃ z4 z5 z6 z7, σ = [some (Zah ks rss), some (.ref pm), some (.ref pp), some (.ref pd), some (.ref pN), z4, z5, z6, z7]) (fun _ _ _ => Zfz) _ (fun d hd0 σ H3 ⟨i1, i2, z4, z5, z6, z7, i4⟩ => ?_) _ _ ⟨X2, gN, _, _, _, _, rfl⟩ fun σ H3 ⟨i1, i2, z4, z5, z6, z7, i4⟩ => ?_
    ·subst i4
     simp only [Zaq, Xj, War] at hd0
     obtain ⟨tn, htn, rfl⟩ := hd0
     fail "g"
     refine Zay (i1.lst (by simp) gd) hd (by omega) (by omega) fun u2 u20 u21 => ?_
     fail "g"
     refine w_lenR (i1.lst (by simp) gm) ?_
     rw [Xk]
     fail "g"
     refine w_mod (by omega) ?_
     fail "g"
     refine Zay (i1.lst (by simp) gd) hd (by omega) (by omega) fun u3 u30 u31 => ?_
     fail "g"
     refine w_lenR (i1.lst (by simp) gm) ?_
     rw [Xk]
     fail "g"
     refine w_mod (by omega) ?_
     obtain ⟨i, hi⟩ : ∃ i : Nat, (u2 + (0 + (tn : Int))) % (made.length : Int) = i := ⟨((u2 + (0 + (tn : Int))) % (made.length : Int)).toNat, by have := Wah (u2 + (0 + (tn : Int))) (show (made.length : Int) ≠ 0 by omega); omega⟩
     obtain ⟨j, hj⟩ : ∃ j : Nat, (u3 + 3 * (0 + (tn : Int))) % (made.length : Int) = j := ⟨((u3 + 3 * (0 + (tn : Int))) % (made.length : Int)).toNat, by have := Wah (u3 + 3 * (0 + (tn : Int))) (show (made.length : Int) ≠ 0 by omega); omega⟩
     have li := Wab (u2 + (0 + (tn : Int))) (show 0 < (made.length : Int) by omega)
     have lj := Wab (u3 + 3 * (0 + (tn : Int))) (show 0 < (made.length : Int) by omega)
     rw [hi] at li
     rw [hj] at lj
     rw [hi, hj]
     fail "g"
     refine Zix (fun σ H' => Fm [] H H' ∧ H'[pN]? = some (.lst ((nms ks).map .int)) ∧ ∃ z7, σ = [some (Zah ks rss), some (.ref pm), some (.ref pp), some (.ref pd), some (.ref pN), some (.int (0 + (tn : Int))), some (.int i), some (.int j), z7]) (fun σ H' i => Ztg i.2.1) _ (fun d hd0 σ H4 ⟨k1, k2, z7, k4⟩ => ?_) _ _ ⟨i1, i2, _, rfl⟩ fun σ H4 ⟨k1, k2, z7, k4⟩ => ?_
     ·subst k4
      obtain ⟨n, hn, rfl⟩ := Xj.mp hd0
      obtain ⟨n1, n2, n3⟩ := Zmw.mp hn
      fail "i"
      have li' : i < made.length := by omega
      have lj' : j < made.length := by omega
      refine w_ixR (k1.lst (by simp) gm) (Zhd li') ?_
      fail "g"
      refine w_ixR (k1.lst (by simp) gm) (Zhd lj') ?_
      fail "g"
      refine Ziq (hm _ (Wag li')) (hm _ (Wag lj')) c.h8 n1 fun H5 x5 => ?_
      fail "g"
      have X5 := k1.trans x5
      have es := Zr8 (rss := rss) (ks := ks) (made := made) li' lj' ⟨n1, n2⟩ n3
      cases ej : Zep made[i] made[j] n with
      | none =>
       refine w_isnN (b := true) rfl ?_
       fail "g"
       exact ⟨X5, x5.lst (by simp) k2, _, rfl⟩
      | some y =>
       refine w_isnN (b := false) rfl ?_
       fail "g"
       obtain ⟨m, rfl⟩ : ∃ m : Nat, n = m := ⟨n.toNat, by omega⟩
       rw [ej] at es
       exact q _ _ _ X5 es ⟨tm4 (by omega) (by omega) (by omega), _, _, _, rfl, by simp⟩
     ·subst k4
      fail "g"
      exact ⟨k1, k2, _, _, _, _, rfl⟩
    ·subst i4
     fail "g"
     exact ⟨i1, _, _, _, _, _, rfl⟩
  ·fail "g"
   exact ⟨x, _, _, _, _, _, rfl⟩
 rintro _ H' ⟨x, z4, z5, z6, z7, z8, rfl⟩
 obtain ⟨xs, f⟩ := Znh pls
 have gp' := x.lst (by simp) gp
 fail "i"
 refine Zkg f (by omega) (appL gp') last ?_
 have X1 : Fm [] H (H' ++ [.lst []]) := x.trans (Fm.app _)
 fail "g"
 cases er : pls with
 | nil => fail "g"; exact q0 _ X1
 | cons y r =>
  rw [← er]
  rw [show (pls.map Zbr).isEmpty = false by rw [er]; rfl]
  have lr : 0 < pls.length := by rw [er]; simp
  fail "g"
  refine Zay (X1.lst (by simp) gd) hd (by omega) (by omega) fun u u0 u1 => ?_
  fail "g"
  rw [Xk]
  refine w_mod (by omega) ?_
  refine Zf2 (appL gp') (by simp) (by omega) fun pl hpl => ?_
  obtain ⟨bs, hbs, rfl⟩ := Xj.mp hpl
  obtain ⟨lb, kb⟩ := hp bs hbs
  fail "g"
  refine Zl4 (k := 4) (X1.lst (by simp) gd) ?_
  rw [← Wbe]
  fail "g"
  refine Zvc h8 c.hr lb kb last (hd.drop 4) (by simp; omega) fun ls H2 x2 u com => ?_
  fail "g"
  exact q _ _ _ ((X1.trans (Fm.app _)).trans x2) (by rw [Zsx]; exact Ziy u com) ⟨tmT (up_R (by omega) u).1 h8, _, _, _, rfl, by simp⟩
end
variable {σ : SD} {H : HD} {Q : D -> HD -> Prop}
section
variable {ks : List D} {rss : List (List Int)} {ns : List Int}
nonrec def plB (d : D) : List Bool := match d with
 | .tup xs => xs.map fun x => match x with
  | .bl b => b
  | _ => false
 | _ => []
theorem Zof (bs : List Bool) : plB (Zbr bs) = bs := by
 show (bs.map D.bl).map _ = bs
 rw [Wbc]
 exact Wfd bs
theorem Zmr {many : Nat} (c : CR ks rss) (hm : many ≤ 14) (q : ∀ p ds H', H'[p]? = some (.lst ds) -> mok ks rss [] ds = true -> (∀ d ∈ ds, Gd d) -> ds.length ≤ 14 -> Fm [] H H' -> Q (.ref p) H') : wE (Zch [Zah ks rss, .fl (ns.map .int), .int 2, .int many] H) Q := by
 have h8 := c.h8
 refine Za2 rfl ?_
 show wS (Za8 [some (Zah ks rss), some (.fl (ns.map .int)), some (.int 2), some (.int many), none, none, none, none, none, none] H) _
 unfold Za8
 fail "g"
 have l5 : (H ++ [DO.lst []]).length = H.length + 1 := by simp
 refine Zp6 h8 fun pq pls Hq gq lq l256 xq => ?_
 have g4q := xq.lst (by simp) (appL (u := DO.lst []) (last (H := H) (o := DO.lst [])))
 have g5q := xq.lst (by simp) (last (H := H ++ [DO.lst []]) (o := DO.lst []))
 rw [l5] at g5q
 rw [l5]
 have Xq : Fm [] H Hq := ((Fm.app _).trans (Fm.app _)).trans xq
 fail "g"
 refine Zb1 (fun d => keeps rss (plB d)) (fun H' => Fm [] Hq H') (fun _ j => Ztg (j.lst (by simp) gq)) _ (fun y hy H3 j => ?_) _ Fm.refl fun H3 j => ?_
 ·obtain ⟨bs, hbs, rfl⟩ := Xj.mp hy
  show wT (tNo _ (some (Zbr bs) :: [some (Zah ks rss)]) H3) _
  fail "g"
  refine Zum h8 c.hr (lq bs hbs) fun H4 x4 => ?_
  fail "g"
  rw [Zof, Weh]
  exact ⟨rfl, j.trans x4⟩
 have ef : (pls.map Zbr).filter (fun d => keeps rss (plB d)) = (pls.filter (keeps rss)).map Zbr := by
  rw [Wbh]
  congr 1
  exact Wfc fun bs _ => by simp only [Function.comp_def, Zof]
 rw [ef]
 have lf := Waj (keeps rss) pls
 have hk : ∀ bs ∈ pls.filter (keeps rss), bs.length = ks.length ∧ keeps rss bs = true := fun bs hb => by
  obtain ⟨h1, h2⟩ := Wac.mp hb
  exact ⟨lq bs h1, h2⟩
 generalize pls.filter (keeps rss) = kp at lf hk
 refine ⟨by simp; omega, ?_⟩
 have g4' := j.lst (by simp) g4q
 have g5' := j.lst (by simp) g5q
 have X6 : Fm [] H (H3 ++ [.lst (kp.map Zbr)]) := (Xq.trans j).trans (Fm.app _)
 have g6 : (H3 ++ [DO.lst (kp.map Zbr)])[H3.length]? = some (.lst (kp.map Zbr)) := last
 have g4 : (H3 ++ [DO.lst (kp.map Zbr)])[H.length]? = some (.lst []) := appL g4'
 have g5 : (H3 ++ [DO.lst (kp.map Zbr)])[H.length + 1]? = some (.lst []) := appL g5'
 have l36 : H.length + 1 < H3.length := (Xd.mp g5').1
 generalize (H3 ++ [DO.lst (kp.map Zbr)]) = H6 at X6 g6 g4 g5 ⊢
 generalize H3.length = p6 at g6 l36 ⊢
 fail "g"
 refine ⟨_, rfl, ⟨by omega, by omega⟩, ?_⟩
 rw [Xy]
 refine Zby (fun d t σ H' => ∃ (ds : List D) (z6 z7 z8 : Option D), (∀ x ∈ t, ∃ i : Nat, x = .int i ∧ i ≤ 14) ∧ d.length + t.length = many ∧ ds.length ≤ d.length ∧ mok ks rss [] ds = true ∧ (∀ d ∈ ds, Gd d) ∧ H'[H.length]? = some (.lst ds) ∧ H'[H.length + 1]? = some (.lst ((mad ks rss [] ds).map Za1)) ∧ H'[p6]? = some (.lst (kp.map Zbr)) ∧ Fm [] H H' ∧ σ = [some (Zah ks rss), some (.fl (ns.map .int)), some (.int 2), some (.int many), some (.ref H.length), some (.ref (H.length + 1)), some (.ref p6), z6, z7, z8]) (fun _ _ _ _ _ => Zfz) (fun d x t σ H1 ⟨ds, z6, z7, z8, i1, i2, i3, i4, i5, i6, i7, ip, i8, i9⟩ => ?_) (fun d σ H1 ⟨ds, z6, z7, z8, i1, i2, i3, i4, i5, i6, i7, ip, i8, i9⟩ => ?_) _ [] _ _ ⟨[], _, _, _, fun x hx => ?_, by simp [Zaq], Xc _, rfl, by simp, g4, g5, g6, X6, rfl⟩
 ·subst i9
  obtain ⟨i, rfl, hi⟩ := i1 x (by simp)
  have lm := Zf4 ks rss ds [] i4
  simp at i2 lm
  fail "g"
  refine w_at (by omega) (by omega) fun cell => ?_
  fail "g"
  refine Zf8 (many := 24) (by omega) fun dg pd H2 l2 d2 g2 n2 x2 => ?_
  fail "g"
  refine Zl4 (k := 14) g2 ?_
  rw [← Wbe]
  fail "g"
  have X3 : Fm [] H1 (H2 ++ [.lst ((dg.drop 14).map .int)]) := x2.trans (Fm.app _)
  have g4 := X3.lst (by simp) i6
  have g5 := X3.lst (by simp) i7
  have tl : ∀ y ∈ t, ∃ i : Nat, y = .int i ∧ i ≤ 14 := fun y hy => i1 y (by simp [hy])
  refine Zyk c (Zj6 c.hr ds [] (by simp)) (by omega) g5 (X3.lst (by simp) ip) hk (by omega) last (d2.drop 14) (by simp; omega) (fun H4 x4 => ?_) fun s y H4 x4 e gd => ?_
  ·have X4 := X3.trans x4
   fail "i"
   exact ⟨ds, _, _, _, tl, by simp; omega, by simp; omega, i4, i5, X4.lst (by simp) i6, X4.lst (by simp) i7, X4.lst (by simp) ip, i8.trans X4, rfl⟩
  ·have X4 := X3.trans x4
   obtain ⟨a, b, r, rfl, _⟩ := gd.sh
   obtain ⟨s1, s2⟩ := Zhr i4 e
   have g4 := X4.lst (by simp) i6
   have g5 := X4.lst (by simp) i7
   have g6 := X4.lst (by simp) ip
   fail "i"
   refine ⟨isl g4, ?_⟩
   fail "g"
   refine Zgv g4 (by omega) ?_
   fail "g"
   have n45 : H.length ≠ H.length + 1 := by omega
   have g5' : (H4.set H.length (.lst (ds ++ [.tup (a :: b :: r)])))[H.length + 1]? = some (.lst ((mad ks rss [] ds).map Za1)) := Zxj n45 g5
   refine ⟨isl g5', ?_⟩
   fail "g"
   refine Zlq c.hr c.hk c.h8 (Zj6 c.hr ds [] (by simp)) g5' (gd.tm _) (by omega) fun H6 x6 => ?_
   rw [e]
   show wA _ _
   fail "g"
   have g56 := x6.lst (by simp) g5'
   refine Zgv g56 (by simp; omega) ?_
   fail "g"
   refine ⟨ds ++ [.tup (a :: b :: r)], _, _, _, tl, by simp; omega, by simp; omega, s1, fun d hd => ?_, Zxj (by omega) (x6.lst (by simp) (Zpg g4)), ?_, Zxj (by omega) (x6.lst (by simp) (Zxj (by omega) g6)), ?_, rfl⟩
   ·rcases Xs.mp hd with z | z
    ·exact i5 d z
    ·simp at z; subst z; exact gd
   ·rw [Zpg g56, s2]
    simp
    rfl
   ·have y1 := (i8.trans X4).new (Fm.set (S := [H.length]) (p := H.length) (o := .lst (ds ++ [.tup (a :: b :: r)])) (by simp)) (fun q hq _ => by simp at hq; subst hq; exact Xc _)
    exact (y1.trans x6).new (Fm.set (S := [H.length + 1]) (by simp)) (fun q hq _ => by simp at hq; subst hq; exact Wci _)
 ·simp only [Zaq, Xj, War] at hx
  obtain ⟨k, hk, rfl⟩ := hx
  exact ⟨k, by simp, by omega⟩
 ·subst i9
  simp at i2
  fail "g"
  exact q _ _ _ i6 i4 i5 (by omega) i8
theorem Zzp {xs : List D} {k : Int} (h1 : 0 ≤ k) (h2 : k ≤ 1000) (h3 : xs.length ≤ 1000) (q : Q (.tup (Xg k.toNat xs).flatten) H) : wE (Zmi (.tup xs) (.int k) H) Q := ⟨_, _, muT (by omega) h2 h3, q⟩
theorem Zox {one : Int} (c : CR ks rss) (hr : rss.length ≤ 20) (h0 : 0 ≤ one) (q : ∀ rs H', CR ks rs -> rs.length ≤ 120 -> Fm [] H H' -> Q (Zah ks rs) H') : wE (Zda [Zah ks rss, .int one] H) Q := by
 refine Za2 rfl ?_
 show wS (Zbm [some (Zah ks rss), some (.int one), none, none] H) _
 unfold Zbm
 have back : Q (Zah ks rss) H := q rss H c (by omega) Fm.refl
 have h8 := c.h8
 refine w_seq (w_asg ?_)
 fail "g"
 show wG (gTp 2 (gCn (gNm 2) (gCn (gNm 3) gNl)) (.tup [.tup ks, .tup (rss.map Za1)]) _ H) _
 fail "i"
 fail "g"
 refine ⟨fun v => ?_, fun v => ?_⟩
 ·fail "g"; exact back
 fail "g"
 refine ⟨fun v => ?_, fun v => ?_⟩
 ·fail "g"; exact back
 fail "g"
 refine Zzp (by omega) (by omega) (by simp; omega) ?_
 fail "g"
 refine ⟨_, rfl, by simp; omega, ?_⟩
 have hn : (1 + one / 6 % 4).toNat ≤ 4 := by omega
 generalize (1 + one / 6 % 4).toNat = n at hn
 have e2 : (Xg n (rss.map Za1)).flatten = ((Xg n rss).flatten).map Za1 := by
  rw [List.map_flatten, Wex]
 rw [e2, ← Wfi]
 have ln : (Xg n rss).flatten.length ≤ 80 := by
  have : n = 0 ∨ n = 1 ∨ n = 2 ∨ n = 3 ∨ n = 4 := by omega
  rcases this with rfl | rfl | rfl | rfl | rfl <;> simp [Wax] <;> omega
 refine w_addT (by simp at ln ⊢; omega) ?_
 rw [← Wad]
 fail "g"
 refine q _ _ ⟨c.hk, c.h8, fun ls h => ?_, by simp at ln ⊢; omega⟩ (by simp at ln ⊢; omega) Fm.refl
 rcases Xs.mp h with z | z
 ·obtain ⟨l, hl, hm⟩ := List.mem_flatten.mp z
  rw [List.eq_of_mem_replicate hl] at hm
  exact c.hr ls hm
 ·exact c.hr ls (Wfj.mp z)
end
variable {σ : SD} {H : HD} {Q : D -> HD -> Prop}
theorem fa {P : D -> Prop} {a : D} {r : List D} (h : P a) (t : ∀ d ∈ r, P d) : ∀ d ∈ a :: r, P d := List.forall_mem_cons.mpr ⟨h, t⟩
theorem fn {P : D -> Prop} : ∀ d ∈ ([] : List D), P d := fun _ h => by cases h
nonrec abbrev Pa (H : HD) (d : D) : Prop := T [] H 0 70 d
theorem pI {i : Int} (h0 : -206 ≤ i) (h1 : i ≤ 206) : Pa H (.int i) := (T.int h0 h1).le (Xc _) (by omega)
theorem pN {i : Nat} (h : i < 1200) : Pa H (.int i) := (T.nat h).le (Xc _) (by omega)
theorem pB {b : Bool} : Pa H (.bl b) := T.bl.le (Xc _) (by omega)
theorem pO : Pa H .non := T.non.le (Xc _) (by omega)
theorem pS {x : Str} (h : (x.cps.toList.all fun c => decide (c < 0x110000)) = true) (h2 : (x.cps.toList.all fun c => decide (c < 16 ^ 8)) = true) (h3 : x.cps.size ≤ 40) : Pa H (.str x) := (T.str h h2 h3).le (Xc _) (by omega)
nonrec abbrev Wr (H : HD) (d : D) : Prop := T [] H 4 1000 d
theorem Pa.wr {d : D} (h : Pa H d) : Wr H d := h.le (by omega) (by omega)
theorem w2 {a b : D} (x : Pa H a) (y : Pa H b) : Wr H (.tup [a, b]) := (T.tup (Ts.cons x (Ts.cons y (Ts.nil (w := 0))))).le (by omega) (by omega)
theorem w1 {a : D} (x : Pa H a) : Wr H (.tup [a]) := (T.tup (Ts.cons x (Ts.nil (w := 0)))).le (by omega) (by omega)
theorem w4 {a b c e : D} (x : Pa H a) (y : Pa H b) (z : Pa H c) (v : Pa H e) : Wr H (.tup [a, b, c, e]) := (T.tup (Ts.cons x (Ts.cons y (Ts.cons z (Ts.cons v (Ts.nil (w := 0))))))).le (by omega) (by omega)
theorem w0 : Wr H (.tup []) := (T.tup (Ts.nil (k := 0) (w := 0))).le (by omega) (by omega)
theorem Ya4 {zs : List Int} (h : ∀ x ∈ zs, Zas x ≤ 8) (hl : zs.length ≤ 17) : T [] H 1 700 (.tup (zs.map .int)) := (T.tup (Zjr zs h)).le (Xc _) (by omega)
theorem Zoc (ns : List Int) (lo hi : Option Int) : ∃ cs : List Int, Zil (ns.map .int) lo hi = cs.map .int ∧ (∀ c ∈ cs, c ∈ ns) ∧ cs.length ≤ ns.length := by
 refine ⟨(ns.drop (HT.sIx (ns.map D.int).length 0 lo)).take (HT.sIx (ns.map D.int).length (ns.map D.int).length hi - HT.sIx (ns.map D.int).length 0 lo), ?_, fun c hc => Wdd (Wen hc), ?_⟩
 ·unfold Zil
  rw [← Wbe, ← Wcp]
 ·rw [Wbm, Wce]
  omega
theorem shB29 : (Tbz (.int (10 ^ 29))).length ≤ 40 ∧ (Tah (10 ^ 29)).showable = true ∧ (Tah (10 ^ 29)).weight ≤ 200 := by decide +kernel
theorem T.big29 {k : Nat} : T [] H k 200 (.int (10 ^ 29)) := by
 have h := shB29
 exact ⟨.int (10 ^ 29), fun H' _ m _ => Zgo H' m _, rfl, h.2.1, Wak _, by simp only [Tav]; exact decide_eq_true h.1, h.2.2⟩
theorem Zu7 (xs : List D) : Zil xs none (some (-1)) = xs.take (xs.length - 1) := by
 unfold Zil
 have h1 : HT.sIx xs.length xs.length (some (-1)) = xs.length - 1 := by
  show (if (-1 : Int) < 0 then ((-1 : Int) + (xs.length : Int)).toNat else min (-1 : Int).toNat xs.length) = xs.length - 1
  rw [if_pos (by omega)]
  omega
 have h2 : HT.sIx xs.length 0 none = 0 := rfl
 rw [h1, h2]
 simp
theorem Yaf {a b : D} {r : List D} {q1 q2 : Nat} (tm : Tm (.tup (a :: b :: r))) (g1 : H[q1]? = some (.lst (a :: b :: r))) (g2 : H[q2]? = some (.lst [a])) :
  ∀ d ∈ [D.non, D.ref q1, D.tup (a :: b :: r ++ [D.int 0]), D.tup (List.take ((a :: b :: r).length - 1) (a :: b :: r)), D.tup [], D.tup [D.str "least", D.int 0], D.int 7, D.tup [D.tup (a :: b :: r)], D.tup [D.str "term"], D.tup [D.non, D.int 0]] ++ [D.tup ([D.ref q2] ++ b :: r)], Wr H d := by
 have t0 := tm H
 have ts := t0.parts
 obtain ⟨x, y, ta, tr, hxy⟩ := ts.two
 have r1 : Wr H (.ref q1) := (T.lst (by simp) g1 ts).le (by omega) (by omega)
 have r2 : Wr H (.tup (a :: b :: r ++ [D.int 0])) := (T.tup (Ts.app ts (Ts.cons (T.int (k := 2) (i := 0) (by omega) (by omega)) (Ts.nil (w := 0))))).le (by omega) (by omega)
 have r3 : Wr H (.tup (List.take ((a :: b :: r).length - 1) (a :: b :: r))) := (T.tup (ts.take _)).le (by omega) (by omega)
 have r4 : Wr H (.tup [.tup (a :: b :: r)]) := (T.tup (Ts.cons t0 (Ts.nil (w := 0)))).le (by omega) (by omega)
 have r5 : T [] H 3 (400 + 0 + 1) (.ref q2) := (T.lst (by simp) g2 (Ts.cons ta (Ts.nil (w := 0)))).le (by omega) (by omega)
 have r6 : Wr H (.tup ([D.ref q2] ++ b :: r)) := (T.tup (Ts.cons r5 (tr.le (k' := 3) (by omega) (Xc _)))).le (by omega) (by omega)
 have z0 : Pa H (.int 0) := pI (by omega) (by omega)
 exact fa pO.wr (fa r1 (fa r2 (fa r3 (fa w0 (fa (w2 (pS (by decide) (by decide) (by decide)) z0) (fa (pI (i := 7) (by omega) (by omega)).wr (fa r4 (fa (w1 (pS (by decide) (by decide) (by decide))) (fa (w2 pO z0) (fa r6 fn))))))))))
section
variable {ks : List D} {rss made : List (List Int)} {ds : List Int} {pm pd : Nat} {a b : D} {r : List D}
theorem Ztw (c : CR ks rss) (hr : rss.length ≤ 120) (hm : made.length ≤ 1000) (gm : H[pm]? = some (.lst (made.map Za1))) (gd : H[pd]? = some (.lst (ds.map .int))) (hd : Zqx ds) (h5 : 12 ≤ ds.length) (tm : Tm (.tup (a :: b :: r)))
  (hl : r.length ≤ 10) (q : ∀ d H', Fm [] H H' -> Wr H' d -> Q d H') : wE (Za7 [Zah ks rss, .ref pm, .tup (a :: b :: r), .ref pd] H) Q := by
 have h8 := c.h8
 refine Za2 rfl ?_
 show wS (Za6 [some (Zah ks rss), some (.ref pm), some (.tup (a :: b :: r)), some (.ref pd), none, none, none, none, none, none, none, none, none] H) _
 unfold Za6
 fail "g"
 refine Zs0 (by omega) (by omega) (by decide) ?_
 fail "g"
 refine Zay (appL gd) hd (by omega) (by omega) fun u u0 u1 => ?_
 fail "g"
 have X1 : Fm [] H (H ++ [DO.lst [.int ((made.map Za1).length : Int), .int (-1), .bl true, .non, .str "0", .int (10 ^ (20 : Int).toNat), .int (((made.map Za1).length : Int) + 1)]]) := Fm.app _
 refine Zf2 last rfl (by simp) ?_
 have big : ∀ H : HD, Pa H (.int (10 ^ (20 : Int).toNat)) := fun H => T.big
 have allF : ∀ d ∈ [D.int ((made.map Za1).length : Int), .int (-1), .bl true, .non, .str "0", .int (10 ^ (20 : Int).toNat), .int (((made.map Za1).length : Int) + 1)], ∀ H : HD, Pa H d := by
  rw [Xk]
  exact fa (fun H => pN (by omega)) (fa (fun H => pI (by omega) (by omega)) (fa (fun H => pB) (fa (fun H => pO) (fa (fun H => pS (by decide) (by decide) (by decide)) (fa big (fa (fun H => by rw [show ((made.length : Int) + 1) = ((made.length + 1 : Nat) : Int) by omega]; exact pN (by omega)) fn))))))
 intro far hfar
 have pf := allF far hfar
 clear allF hfar
 generalize (H ++ [DO.lst [.int ((made.map Za1).length : Int), .int (-1), .bl true, .non, .str "0", .int (10 ^ (20 : Int).toNat), .int (((made.map Za1).length : Int) + 1)]]) = H1 at X1 ⊢
 have gd1 := X1.lst (by simp) gd
 have gm1 := X1.lst (by simp) gm
 fail "i"
 refine Zay gd1 hd (by omega) (by omega) fun v v0 v1 => ?_
 fail "g"
 refine ⟨fun z => ?_, fun z => ?_⟩
 ·fail "g"
  refine Znl ?_
  fail "g"
  refine Zfd (d := .tup (Zil (a :: b :: r) none (some (-1)))) rfl ?_
  rw [Zu7]
  fail "g"
  refine Zmm ?_
  fail "g"
  refine Zfd (d := .tup (b :: r)) (by rw [show (some (1 : Int)) = some ((1 : Nat) : Int) from rfl]; exact sllo) ?_
  fail "g"
  refine Zeg (appL (appL last)) last (by simp) ?_
  fail "g"
  refine Zay (by fail "lk") hd (by omega) (by omega) fun v v0 v1 => ?_
  fail "g"
  refine Zf2 last (by simp) (by omega) ?_
  intro d hd1
  fail "g"
  exact q d _ (((((X1.trans (Fm.app _)).trans (Fm.app _)).trans (Fm.app _)).trans (Fm.app _)).trans (Fm.app _)) (Yaf tm (appL (appL (appL (appL last)))) (appL (appL last)) d hd1)
 fail "i"
 refine Zay gd1 hd (by omega) (by omega) fun v v0 v1 => ?_
 fail "g"
 refine ⟨fun z => ?_, fun z => ?_⟩
 ·fail "g"
  exact q _ _ X1 (w2 (pS (by decide) (by decide) (by decide)) (pf _))
 fail "i"
 refine Zay gd1 hd (by omega) (by omega) fun v v0 v1 => ?_
 fail "g"
 refine ⟨fun z => ?_, fun z => ?_⟩
 ·fail "g"
  refine Zay (appL gd1) hd (by omega) (by omega) fun v v0 v1 => ?_
  fail "g"
  refine Zf2 last rfl (by simp) (fa ?_ (fa ?_ (fa ?_ fn))) <;> (fail "g"; exact q _ _ (X1.trans (Fm.app _)) (w4 (pS (by decide) (by decide) (by decide)) (by first | exact pf _ | exact pI (by omega) (by omega)) (by first | exact pf _ | exact pI (by omega) (by omega)) (by first | exact pf _ | exact pI (by omega) (by omega))))
 fail "i"
 refine Zay gd1 hd (by omega) (by omega) fun v v0 v1 => ?_
 fail "g"
 refine ⟨fun z => ?_, fun z => ?_⟩
 ·fail "g"
  refine Zay gd1 hd (by omega) (by omega) fun u3 u30 u31 => ?_
  fail "g"
  refine w_mod (by omega) ?_
  have m3 := Wah u3 (show (ks.length : Int) + 1 ≠ 0 by omega)
  have m4 := Wab u3 (show 0 < (ks.length : Int) + 1 by omega)
  generalize u3 % ((ks.length : Int) + 1) = e3 at m3 m4 ⊢
  fail "g"
  refine Zay (appL gd1) hd (by omega) (by omega) fun v v0 v1 => ?_
  fail "g"
  refine Zf2 last (by simp) (by omega) ?_
  intro nm hnm
  have pn : ∀ H : HD, Pa H nm := fa (P := fun d => ∀ H : HD, Pa H d) (fun H => pI (by omega) (by omega)) (fa (fun H => pI (by omega) (by omega)) (fa (fun H => pI (by omega) (by omega)) (fa (fun H => pI (by omega) (by omega)) fn))) nm hnm
  rw [Xk]
  obtain ⟨mm, hmm, m5, m6⟩ : ∃ mm : Nat, (if (made.length : Int) > 1 then (made.length : Int) else 1) = mm ∧ 0 < mm ∧ mm ≤ 1000 := by
   split
   ·exact ⟨made.length, rfl, by omega, hm⟩
   ·exact ⟨1, rfl, by omega, by omega⟩
  rw [hmm]
  have part : ∀ (w : Int), ∃ i : Nat, w % (mm : Int) = i ∧ i < 1200 := fun w => ⟨(w % (mm : Int)).toNat, by have := Wah w (show (mm : Int) ≠ 0 by omega); omega, by have := Wab w (show 0 < (mm : Int) by omega); omega⟩
  fail "g"
  refine Zay (appL gd1) hd (by omega) (by omega) fun y y0 y1 => ?_
  fail "g"
  refine w_mod (by omega) ?_
  obtain ⟨i, hi, li⟩ := part y
  rw [hi]
  fail "g"
  refine Zay (appL gd1) hd (by omega) (by omega) fun y' y0 y1 => ?_
  fail "g"
  refine w_mod (by omega) ?_
  obtain ⟨j, hj, lj⟩ := part y'
  rw [hj]
  fail "g"
  exact q _ _ (X1.trans (Fm.app _)) (w4 (pS (by decide) (by decide) (by decide)) (pN li) (pN lj) (pn _))
 fail "g"
 refine ⟨_, rfl, ⟨by omega, by omega⟩, ?_⟩
 rw [Xy]
 refine Zn7 (fun d t o H' => ∃ ls : List Int, o = ls.map .int ∧ ls.length = d.length ∧ d.length + t.length = ks.length ∧ (∀ x ∈ ls, Zas x ≤ 8) ∧ (∀ x ∈ t, ∃ i : Nat, x = .int i ∧ i < ks.length) ∧ Fm [] H1 H') (fun _ _ _ _ _ => Zfz) (fun d x t o H2 ⟨ls, i1, i2, i3, i4, i5, i6⟩ => ?_) _ [] [] _ ⟨[], rfl, rfl, by simp [Zaq], by simp, fun x hx => ?_, Fm.refl⟩ fun d o' H2 ⟨ls, i1, i2, i3, i4, i5, i6⟩ => ?_
 ·obtain ⟨i, rfl, hi⟩ := i5 x (by simp)
  refine w_yes (w_bt ?_)
  show wE (eOp ixD _ _ (some (.int (i : Int)) :: [some (.ref pd)]) H2) _
  fail "g"
  refine Zay (appL (i6.lst (by simp) gd1)) hd (by omega) (by omega) fun y y0 y1 => ?_
  fail "g"
  refine Zf2 last (by simp) (by omega) (fa ?_ (fa ?_ fn))
  ·exact ⟨ls ++ [(i : Int) + 1], by rw [i1]; simp, by simp; omega, by simp at i3 ⊢; omega, fun z hz => by rcases Xs.mp hz with w | w; exact i4 z w; simp at w; subst w; unfold Zas; split <;> omega, fun z hz => i5 z (by simp [hz]), i6.trans (Fm.app _)⟩
  ·exact ⟨ls ++ [0 - (i : Int) - 1], by rw [i1]; simp, by simp; omega, by simp at i3 ⊢; omega, fun z hz => by rcases Xs.mp hz with w | w; exact i4 z w; simp at w; subst w; unfold Zas; split <;> omega, fun z hz => i5 z (by simp [hz]), i6.trans (Fm.app _)⟩
 ·simp only [Zaq, Xj, War] at hx
  obtain ⟨k, hk, rfl⟩ := hx
  exact ⟨k, by simp, by omega⟩
 rw [Wcn] at i1
 subst i1
 simp at i3
 refine ⟨by simp; omega, ?_⟩
 have X2 := (X1.trans i6).trans (Fm.app (S := []) [DO.lst (ls.map .int)])
 have ll : ls.length ≤ 8 := by omega
 fail "g"
 have gd2 := X2.lst (by simp) gd
 refine Zay gd2 hd (by omega) (by omega) fun y y0 y1 => ?_
 fail "g"
 refine w_mod (by omega) ?_
 obtain ⟨t, ht⟩ : ∃ t : Nat, y % ((ks.length : Int) + 1) = t := ⟨(y % ((ks.length : Int) + 1)).toNat, by have := Wah y (show (ks.length : Int) + 1 ≠ 0 by omega); omega⟩
 rw [ht]
 generalize (H2 ++ [DO.lst (ls.map .int)]) = H3 at X2 gd2 ⊢
 fail "g"
 refine Zs0 (by omega) (by omega) (by decide) ?_
 fail "g"
 refine Zay (appL (appL gd2)) hd (by omega) (by omega) fun u3 u30 u31 => ?_
 fail "g"
 refine Zf2 last (by simp) (by omega) ?_
 intro odd hodd
 have X4 := (X2.trans (Fm.app (S := []) [DO.lst [D.int 1]])).trans (Fm.app (S := []) [DO.lst [D.int 0, .int (0 - (ks.length : Int) - 1), .int ((ks.length : Int) + 1), .bl true, .bl false, .non, .str "1", .tup [.int 1], .ref H3.length, .int (10 ^ (29 : Int).toNat)]])
 have one : ∀ {H : HD}, T [] H 0 40 (.int 1) := T.int (by omega) (by omega)
 have po : T [] (H3 ++ [DO.lst [D.int 1]] ++ [DO.lst [D.int 0, .int (0 - (ks.length : Int) - 1), .int ((ks.length : Int) + 1), .bl true, .bl false, .non, .str "1", .tup [.int 1], .ref H3.length, .int (10 ^ (29 : Int).toNat)]]) 1 200 odd :=
  fa (P := T [] _ 1 200) ((pI (by omega) (by omega)).le (by omega) (by omega)) (fa ((pI (by omega) (by omega)).le (by omega) (by omega)) (fa ((pI (by omega) (by omega)).le (by omega) (by omega)) (fa (pB.le (by omega) (by omega)) (fa (pB.le (by omega) (by omega)) (fa (pO.le (by omega) (by omega)) (fa ((pS (by decide) (by decide) (by decide)).le (by omega) (by omega)) (fa ((T.tup (Ts.cons one (Ts.nil (w := 0)))).le (by omega) (by omega)) (fa ((T.lst (by simp) (appL last) (Ts.cons one (Ts.nil (w := 0)))).le (by omega) (by omega)) (fa ((T.big29 (k := 1)).le (by omega) (by omega)) fn))))))))) odd hodd
 clear hodd
 have gd4 := X4.lst (by simp) gd
 generalize (H3 ++ [DO.lst [D.int 1]] ++ [DO.lst [D.int 0, .int (0 - (ks.length : Int) - 1), .int ((ks.length : Int) + 1), .bl true, .bl false, .non, .str "1", .tup [.int 1], .ref H3.length, .int (10 ^ (29 : Int).toNat)]]) = H4 at X4 gd4 po ⊢
 have ro : ∀ {H : HD} {d : D}, T [] H 2 800 d → Wr H (.tup [.str "term", d]) := fun h => (T.tup (Ts.cons (T.str (k := 2) (x := "term") (by decide) (by decide) (by decide)) (Ts.cons h (Ts.nil (w := 0))))).le (by omega) (by omega)
 have lt : (ls.take t).length ≤ 8 := by rw [Wbm]; omega
 have st : ∀ x ∈ ls.take t, Zas x ≤ 8 := fun x hx => i4 x (Wen hx)
 have sd : ∀ {n : Nat}, ∀ x ∈ ls.drop n, Zas x ≤ 8 := fun x hx => i4 x (Wdd hx)
 have ld : ∀ n : Nat, (ls.drop n).length ≤ 8 := fun n => by rw [Wce]; omega
 fail "i"
 refine Zay gd4 hd (by omega) (by omega) fun w w0' w1' => ?_
 fail "g"
 refine ⟨fun z => ?_, fun z => ?_⟩
 ·fail "g"
  rw [← Wcp]
  fail "g"
  refine Zay gd4 hd (by omega) (by omega) fun w w0' w1' => ?_
  fail "g"
  obtain ⟨n, hn⟩ : ∃ n : Nat, (t : Int) + w % 2 = n := ⟨((t : Int) + w % 2).toNat, by omega⟩
  rw [hn]
  fail "g"
  rw [← Wbe]
  have l2 : (ls.take t).length + (ls.drop n).length ≤ 8 := by rw [Wbm, Wce]; omega
  refine q _ _ X4 (ro ?_)
  exact (T.tup (Ts.app (Ts.app ((Zjr _ st).le (k' := 1) (by omega) (Xc _)) (Ts.cons po (Ts.nil (w := 0)))) ((Zjr _ sd).le (k' := 1) (by omega) (Xc _)))).le (by omega) (by omega)
 fail "g"
 obtain ⟨cs, ec, mc, lc⟩ := Zoc ls (some (if (t : Int) - 1 > 0 then (t : Int) - 1 else 0)) (some (t : Int))
 refine Zfd (d := .tup (cs.map .int)) (by rw [← ec]; rfl) ?_
 fail "g"
 refine Zj0 (fun d => .int (-Zkp d)) (fun H' => H' = H4) (fun _ _ => Zfz) _ (fun y hy H5 j => ?_) _ rfl fun H5 j => ?_
 ·obtain ⟨x, _, rfl⟩ := Xj.mp hy
  subst j
  fail "g"
  exact ⟨rfl, rfl⟩
 subst j
 refine ⟨by simp; omega, ?_⟩
 rw [show (cs.map D.int).map (fun d => D.int (-Zkp d)) = (cs.map fun x => -x).map D.int by rw [Wbc, Wbc]; rfl]
 fail "g"
 refine ⟨_, rfl, by simp; omega, ?_⟩
 fail "g"
 obtain ⟨c2, e2, m2, l2⟩ := Zoc ls (some (-1)) none
 refine Zfd (d := .tup (c2.map .int)) (by rw [← e2]; rfl) ?_
 fail "g"
 refine Znl ?_
 fail "g"
 refine Zay (appL (appL (appL gd4))) hd (by omega) (by omega) fun w w0' w1' => ?_
 fail "g"
 refine Zf2 last (by simp) (by omega) ?_
 intro d hd1
 fail "g"
 refine q _ _ (((X4.trans (Fm.app _)).trans (Fm.app _)).trans (Fm.app _)) (ro ?_)
 have ti : ∀ {H : HD} {zs : List Int}, (∀ x ∈ zs, Zas x ≤ 8) -> zs.length ≤ 17 -> T [] H 2 800 (.tup (zs.map .int)) := fun h hl => (Ya4 h hl).le (by omega) (by omega)
 have sn : ∀ x ∈ cs.map (fun x => -x), Zas x ≤ 8 := fun x hx => by
  obtain ⟨y, hy, rfl⟩ := Xj.mp hx
  rw [Znc]
  exact i4 y (mc y hy)
 have mm : ∀ {a b : List Int}, (∀ x ∈ a, Zas x ≤ 8) -> (∀ x ∈ b, Zas x ≤ 8) -> ∀ x ∈ a ++ b, Zas x ≤ 8 := fun h1 h2 x hx => (Xs.mp hx).elim (h1 x) (h2 x)
 rw [← Wcp, ← Wbe, ← Wbe, ← Wad, ← Wad, ← Wad, ← Wad, ← Wfi] at hd1 ⊢
 refine fa (P := T [] _ 2 800) (ti (mm st sd) ?_) (fa (ti (fun x hx => i4 x (Wfj.mp hx)) (by simp; omega)) (fa (ti (mm i4 fun x hx => i4 x (m2 x hx)) (by simp; omega)) (fa ?_ (fa (ti (mm (mm st sn) sd) ?_) (fa (pO.le (by omega) (by omega)) (fa ((T.tup (Ts.nil (k := 0) (w := 0))).le (by omega) (by omega)) fn)))))) d hd1
 ·simp; omega
 ·exact (T.lst (by simp) (appL last) (Zjr ls i4)).le (by omega) (by omega)
 ·simp; omega
end
variable {σ : SD} {H : HD} {Q : D -> HD -> Prop}
theorem Zn2 {k w : Nat} : ∀ ds : List D, (∀ d ∈ ds, T [] H k w d) -> Ts [] H k (ds.length * (w + 1)) ds
 | [], _ => Ts.nil
 | d :: r, h => (Ts.cons (h d (by simp)) (Zn2 r fun x hx => h x (by simp [hx]))).le (Xc _) (by rw [Wcd, Nat.succ_mul]; omega)
theorem Ts.split {k : Nat} : ∀ {xs ys : List D} {w : Nat}, Ts [] H k w (xs ++ ys) -> ∃ a b, Ts [] H k a xs ∧ Ts [] H k b ys ∧ a + b ≤ w
 | [], ys, w, h => ⟨0, w, Ts.nil, h, by omega⟩
 | x :: xs, ys, w, h => by
  obtain ⟨u, v, t1, t2, l⟩ := Ts.two (ds := xs ++ ys) h
  obtain ⟨a, b, s1, s2, l2⟩ := Ts.split t2
  exact ⟨u + a + 1, b, Ts.cons t1 s1, s2, by omega⟩
theorem Yaz {k w t : Nat} {ds : List D} {d : D} (h : Ts [] H k w ds) (hd : T [] H k 1000 d) : Ts [] H k (w + 1001) (ds.take t ++ [d] ++ ds.drop t) := by
 rw [← Wei t ds] at h
 obtain ⟨a, b, s1, s2, l⟩ := h.split
 exact (Ts.app (Ts.app s1 (Ts.cons hd (Ts.nil (w := 0)))) s2).le (Xc _) (by omega)
theorem Zm8 {p t : Nat} {xs : List D} (g : H[p]? = some (.lst xs)) (q : Q (.ref H.length) (H ++ [.lst (xs.take t)])) : wE (slD (.ref p) none (some (t : Int)) H) Q :=
 ⟨_, _, by rw [← Zvt]; simp only [slD, g], q⟩
section
variable {ks : List D} {rss : List (List Int)} {ds : List D} {dg : List Int} {p3 p4 p7 t : Nat}
theorem gd_at (hg : ∀ d ∈ ds, Gd d) (ht : t ≤ ds.length) : ∃ d, atI (ds ++ [D.tup [.str "less", .int 0]]) (t : Int) = some d ∧ Gd d := by
 have lt : t < (ds ++ [D.tup [.str "less", .int 0]]).length := by simp; omega
 refine ⟨_, Zef (Was lt), ?_⟩
 have hm := Wag lt
 rcases Xs.mp hm with z | z
 ·exact hg _ z
 ·simp only [Wey] at z
  rw [z]
  exact ⟨tm2 (i := 0) (by decide) (by decide) (by decide) (by omega), _, _, _, rfl, by simp⟩
theorem Zr4 {N : Int} {n : Nat} {z0 z1 z5 z9 z10 z11 : Option D} (hN : N = n) (c : CR ks rss) (hr : rss.length ≤ 120) (g3 : H[p3]? = some (.lst ds)) (g4 : H[p4]? = some (.lst ((mad ks rss [] ds).map Za1))) (g7 : H[p7]? = some (.lst (dg.map .int))) (hd : Zqx dg) (hl7 : n + 12 ≤ dg.length) (hg : ∀ d ∈ ds, Gd d) (hl : ds.length ≤ 700) (ht : t ≤ ds.length) (ok : mok ks rss [] ds = true)
  (q : ∀ d H', Fm [] H H' → Wr H' d → Q d H') : wE (Zam 4 Za7 (Zaa (Zac 2) (Zaa (eSl (Zac 4) Zb0 (Zbh (Zac 7))) (Zaa (eOp ixD (eOp Zbb (Zac 3) (Zcb (Zaa (Zem (Zaa (eC (.str "less")) (Zaa (eC (.int 0)) Zae))) Zae))) (Zac 7)) (Zaa (eSl (Zac 6)  (Zbh (eC (.int N))) Zb0) Zae))))
   [z0, z1, some (Zah ks rss), some (.ref p3), some (.ref p4), z5, some (.ref p7), some (.int (t : Int)), z9, z10, z11] H) Q := by
 subst hN
 have lm := Zf4 ks rss ds [] ok
 simp at lm
 fail "g"
 refine Zm8 g4 ?_
 rw [← Wcp]
 fail "g"
 refine Zeg (appL (appL g3)) last (by simp; omega) ?_
 obtain ⟨d, hat, gd⟩ := gd_at hg ht
 fail "g"
 refine w_ixR last hat ?_
 obtain ⟨a, b, r, rfl, hr10⟩ := gd.sh
 fail "g"
 refine Zl4 (k := n) (appL (appL (appL g7))) ?_
 rw [← Wbe]
 fail "g"
 refine Ztw c hr (by rw [Wbm]; omega) (appL (appL (appL last))) last (hd.drop n) (by simp; omega) gd.tm hr10 fun d H' x wr => ?_
 exact q d H' (((((Fm.app _).trans (Fm.app _)).trans (Fm.app _)).trans (Fm.app _)).trans x) wr
end
variable {σ : SD} {H : HD} {Q : D -> HD -> Prop}
theorem Zuz {k W p r : Nat} {ds : List D} (ts : Ts [] H k W ds) (hk : k ≤ 29) (g1 : H[p]? = some (.lst ds)) (g2 : H[r]? = some (.lst [])) (q : Q (.bl (!ds.isEmpty)) H) : wE (neD (.ref p) (.ref r) H) Q := by
 obtain ⟨xs, e, s, _⟩ := ts
 have e1 := e H Fm.refl 29 (by omega)
 have lx := Zhw e1
 have t1 : toP H 30 (.ref p) = some (.list xs) := by
  rw [toP]
  simp only [g1, e1, Wcl]
 have d1 : DL.dat (.ref p) H = some (.list xs) := by
  have dd : (Tbt xs).depth ≤ 30 := Xp (Wbn s.dep) (by omega)
  have l : Tac (.list xs) = true := s.lay
  unfold DL.dat
  rw [t1]
  simp [okP, l, dd]
 refine ⟨_, _, Zgp d1 ((Fines.nil (h := 0)).dat (by omega) g2), ?_⟩
 have ee : Ua (.list xs) (.list []) = ds.isEmpty := by
  cases ds with
  | nil => cases xs with
   | nil => rfl
   | cons a b => simp at lx
  | cons d r => cases xs with
   | nil => simp at lx
   | cons a b => simp [Ua, Tab]
 rw [ee]
 exact q
nonrec def Zja : Nat -> Nat -> List D
 | _, 0 => []
 | n, m + 1 => .tup [.str "less", .int ((n : Int) - 1)] :: Zja (n + 1) m
theorem Zmd : ∀ (m n : Nat), (Zja n m).length = m
 | 0, _ => rfl
 | m + 1, n => by rw [Zja, Wcd, Zmd m]
theorem Zom : ∀ (m n : Nat) (k : Nat), (Zaq (k : Int) m).map (fun d => match d with | .int i => D.tup [.str "less", .int ((n : Int) + i - 1)] | d => d) = Zja (n + k) m
 | 0, n, k => by unfold Zaq Zja; rfl
 | m + 1, n, k => by
  rw [Zhf, Xr, Zja]
  have := Zom m n (k + 1)
  rw [show (((k + 1 : Nat)) : Int) = (k : Int) + 1 by omega] at this
  rw [this, show n + (k + 1) = n + k + 1 by omega]
  simp
theorem Zmq {ks : List D} {rss : List (List Int)} : ∀ (m : Nat) (made : List (List Int)), 1 ≤ made.length -> mok ks rss made (Zja made.length m) = true
 | 0, _, _ => rfl
 | m + 1, made, h => by
  have e : stp ks rss made (.tup [.str "less", .int ((made.length : Int) - 1)]) = some (Zde ks made[made.length - 1]) := by
   rw [show ((made.length : Int) - 1) = ((made.length - 1 : Nat) : Int) by omega]
   exact Zoo (by omega)
  rw [Zja]
  simp only [mok, e]
  have := Zmq (ks := ks) (rss := rss) m (made ++ [Zde ks made[made.length - 1]]) (by simp)
  simpa using this
theorem Zoa : ∀ (m n : Nat), 1 ≤ n -> n + m ≤ 1100 -> ∀ d ∈ Zja n m, Gd d
 | 0, _, _, _ => fun d h => by cases h
 | m + 1, n, h1, h2 => by
  rw [Zja, show ((n : Int) - 1) = ((n - 1 : Nat) : Int) by omega]
  exact fa ⟨tm2 (by decide) (by decide) (by decide) (by omega), _, _, _, rfl, by simp⟩ (Zoa m (n + 1) (by omega) (by omega))
theorem pure_law : ∀ ns : List Int, ns.length ≤ 63 -> ∃ Hd', Zo5 [.fl (ns.map .int)] [] = some (.bl true, Hd') := by
 intro ns hns
 suffices h : wE (Zo5 [.fl (ns.map .int)] []) fun d _ => d = .bl true by
  obtain ⟨d, H, e, rfl⟩ := h
  exact ⟨H, e⟩
 refine Za2 rfl ?_
 show wS (Zrv [some (.fl (ns.map .int)), none, none, none, none, none, none, none, none, none, none] []) _
 unfold Zrv
 fail "g"
 refine w_at (by omega) (by omega) fun cell => ?_
 fail "g"
 refine Zf8 (many := 48) (by omega) fun dg0 pg H1 l1 d1 g1 n1 x1 => ?_
 fail "g"
 refine Zl4 (k := 28) g1 ?_
 rw [← Wbe]
 have hd := d1.drop 28
 have ldg : (dg0.drop 28).length = 20 := by simp; omega
 generalize dg0.drop 28 = dg at hd ldg
 have gg : (H1 ++ [DO.lst (dg.map .int)])[H1.length]? = some (.lst (dg.map .int)) := last
 generalize (H1 ++ [DO.lst (dg.map .int)]) = H2 at gg
 generalize H1.length = pS at gg
 fail "g"
 refine Zp0 (most := 8) (fun H k Q h0 h1 q => w_at h0 h1 q) ⟨by omega, by omega⟩ fun ks rs0 H3 cl lk lr x3 => ?_
 have gg3 := x3.lst (by simp) gg
 fail "g"
 refine Zay gg3 hd (by omega) (by omega) fun u u0 u1 => ?_
 fail "g"
 refine Zox ⟨cl.hk, cl.h8, fun ls h => (up_R (by omega) (cl.hu ls h)).1, cl.hl⟩ lr u0 fun rss H4 c hr x4 => ?_
 have gg4 := x4.lst (by simp) gg3
 fail "g"
 refine Zay gg4 hd (by omega) (by omega) fun v v0 v1 => ?_
 fail "g"
 obtain ⟨many, hm, lm⟩ : ∃ m : Nat, 2 + v % 13 = m ∧ m ≤ 14 := ⟨(2 + v % 13).toNat, by omega, by omega⟩
 rw [hm]
 refine Zmr c lm fun p5 ds0 H5 g5 ok0 gd0 ld0 x5 => ?_
 have gg5 := x5.lst (by simp) gg4
 refine w_kn ?_
 refine w_seq (Zm9 (fun σ' H' => ∃ ds p3, H'[p3]? = some (.lst ds) ∧ mok ks rss [] ds = true ∧ (∀ d ∈ ds, Gd d) ∧ ds.length ≤ 700 ∧ σ' = [some (.fl (ns.map .int)), some (.ref pS), some (Zah ks rss), some (.ref p3), none, none, none, none, none, none, none]) ?_ ?_)
 ·(refine WP.w_if ?_; fail "g")
  refine Zay gg5 hd (by omega) (by omega) fun w w0' w1' => ?_
  fail "g"
  refine ⟨fun z => ?_, fun z => ?_⟩
  ·fail "g"
   have ts0 : Ts [] (H5 ++ [DO.lst []]) 2 (ds0.length * 401) ds0 := Zn2 ds0 fun d h => (gd0 d h).tm _
   refine Zuz ts0 (by omega) (appL g5) last ?_
   fail "g"
   cases em : ds0.isEmpty with
   | true => fail "g"; exact ⟨rfl, ds0, p5, appL g5, ok0, gd0, by omega, rfl⟩
   | false =>
    have ln : 1 ≤ ds0.length := by cases ds0 with | nil => cases em | cons a b => simp
    fail "g"
    refine Zay (appL gg5) hd (by omega) (by omega) fun y y0 y1 => ?_
    fail "g"
    obtain ⟨mm, hmm, lmm⟩ : ∃ m : Nat, y % 684 = m ∧ m ≤ 683 := ⟨(y % 684).toNat, by omega, by omega⟩
    rw [hmm]
    refine ⟨_, rfl, ⟨by omega, by omega⟩, ?_⟩
    rw [Xy]
    refine Zj0 (fun d => match d with | .int i => D.tup [.str "less", .int ((ds0.length : Int) + i - 1)] | d => d) (fun H' => H' = H5 ++ [DO.lst []]) (fun _ _ => Zfz) _ (fun x hx H6 j => ?_) _ rfl fun H6 j => ?_
    ·simp only [Zaq, Xj, War] at hx
     obtain ⟨k, hk, rfl⟩ := hx
     subst j
     show wE (Zem _ (some (.int (0 + (k : Int))) :: [some (.ref p5)]) _) _
     fail "g"
     exact ⟨rfl, rfl⟩
    subst j
    have el := Zom mm ds0.length 0
    rw [Nat.add_zero] at el
    rw [show ((0 : Nat) : Int) = 0 from rfl] at el
    rw [el]
    have ll := Zmd mm ds0.length
    refine ⟨by omega, ?_⟩
    refine Zeg (appL (appL g5)) last (by omega) ?_
    fail "g"
    refine ⟨rfl, _, _, last, ?_, ?_, by simp; omega, rfl⟩
    ·rw [Zj8, ok0, Wdf]
     have lk := Zf4 ks rss ds0 [] ok0
     simp at lk
     rw [← lk]
     exact Zmq mm _ (by omega)
    ·intro d hd
     rcases Xs.mp hd with z | z
     ·exact gd0 d z
     ·exact Zoa mm ds0.length ln (by omega) d z
  ·fail "g"
   exact ⟨rfl, ds0, p5, g5, ok0, gd0, by omega, rfl⟩
 rintro _ H6 ⟨ds, p3, g3, ok, gd, ld, rfl⟩
 have ts : Ts [] H6 2 (ds.length * 401) ds := Zn2 ds fun d h => (gd d h).tm _
 fail "i"
 refine Ybb c g3 ts (by omega) (by omega) ok fun H7 x7 => ?_
 fail "g"
 refine Zim c (x7.lst (by simp) g3) (ts.th.fm x7) (by omega) (by omega) fun p4 H8 g4 l4 x8 => ?_
 have g38 := (x7.trans x8).lst (by simp) g3
 fail "g"
 refine ⟨_, rfl, ⟨by omega, by omega⟩, ?_⟩
 refine Zix (fun σ' H' => Fm [] H8 H' ∧ ∃ z5 z7 z8 z9 z10 z11, σ' = [some (.fl (ns.map .int)), some (.ref pS), some (Zah ks rss), some (.ref p3), some (.ref p4), z5, z7, z8, z9, z10, z11]) (fun _ _ _ => Zfz) _ (fun d hd0 σ H9 ⟨i1, z5, z7, z8, z9, z10, z11, i4⟩ => ?_) _ _ ⟨Fm.refl, _, _, _, _, _, _, rfl⟩ fun σ H9 ⟨i1, z5, z7, z8, z9, z10, z11, i4⟩ => ?_
 ·subst i4
  simp only [Zaq, Xj, War] at hd0
  obtain ⟨k, hk, rfl⟩ := hd0
  rw [Wfe]
  have hk : k ≤ 3 := by simp at hk; omega
  refine w_gnm ?_
  refine w_seq (w_set ?_)
  fail "g"
  refine w_at (by omega) (by omega) fun cell => ?_
  fail "g"
  refine Zf8 (many := 60) (by omega) fun dg0 pg H2 l2 d2 g2 n2 x2 => ?_
  fail "g"
  refine Zl4 (k := 24) g2 ?_
  rw [← Wbe]
  have hd := d2.drop 24
  have ldg : (dg0.drop 24).length = 36 := by simp; omega
  generalize dg0.drop 24 = dg at hd ldg
  have X2 : Fm [] H8 (H2 ++ [.lst (dg.map .int)]) := (i1.trans x2).trans (Fm.app _)
  have g7 : (H2 ++ [DO.lst (dg.map .int)])[H2.length]? = some (.lst (dg.map .int)) := last
  generalize (H2 ++ [DO.lst (dg.map .int)]) = H3 at X2 g7 ⊢
  refine w_kn ?_
  refine w_seq (w_set ?_)
  fail "g"
  refine Zay g7 hd (by omega) (by omega) fun u u0 u1 => ?_
  fail "g"
  refine w_lenR (X2.lst (by simp) g38) ?_
  fail "g"
  refine w_mod (by omega) ?_
  obtain ⟨t, ht, lt⟩ : ∃ t : Nat, u % ((ds.length : Int) + 1) = t ∧ t ≤ ds.length := ⟨(u % ((ds.length : Int) + 1)).toNat, by have := Wah u (show (ds.length : Int) + 1 ≠ 0 by omega); omega, by have := Wab u (show 0 < (ds.length : Int) + 1 by omega); omega⟩
  rw [ht]
  refine w_kn ?_
  refine w_seq (w_set ?_)
  refine Zr4 (n := 1) rfl c hr (X2.lst (by simp) g38) (X2.lst (by simp) g4) g7 hd (by omega) gd ld lt ok fun d4 H4 x4 wr4 => ?_
  have X4 := X2.trans x4
  have g34 := X4.lst (by simp) g38
  refine w_kn ?_
  refine w_seq (w_set ?_)
  fail "g"
  refine Zm8 g34 ?_
  fail "g"
  refine Zeg (appL last) last (by simp; omega) ?_
  fail "g"
  refine Zl4 (k := t) (by fail "lk") ?_
  fail "g"
  refine Zeg (appL last) last (by simp; omega) ?_
  have x45 := ((((Fm.refl (S := []) (H := H4)).trans (Fm.app (S := []) [DO.lst (ds.take t)])).trans (Fm.app (S := []) [DO.lst [d4]])).trans (Fm.app (S := []) [DO.lst (ds.take t ++ [d4])])).trans (Fm.app (S := []) [DO.lst (ds.drop t)]) |>.trans (Fm.app (S := []) [DO.lst (ds.take t ++ [d4] ++ ds.drop t)])
  have X5 := X4.trans x45
  have g10 : (H4 ++ [DO.lst (ds.take t)] ++ [DO.lst [d4]] ++ [DO.lst (ds.take t ++ [d4])] ++ [DO.lst (ds.drop t)] ++ [DO.lst (ds.take t ++ [d4] ++ ds.drop t)])[(H4 ++ [DO.lst (ds.take t)] ++ [DO.lst [d4]] ++ [DO.lst (ds.take t ++ [d4])] ++ [DO.lst (ds.drop t)]).length]? = some (.lst (ds.take t ++ [d4] ++ ds.drop t)) := last
  generalize (H4 ++ [DO.lst (ds.take t)] ++ [DO.lst [d4]] ++ [DO.lst (ds.take t ++ [d4])] ++ [DO.lst (ds.drop t)] ++ [DO.lst (ds.take t ++ [d4] ++ ds.drop t)]) = H5 at X5 x45 g10 ⊢
  generalize (H4 ++ [DO.lst (ds.take t)] ++ [DO.lst [d4]] ++ [DO.lst (ds.take t ++ [d4])] ++ [DO.lst (ds.drop t)]).length = p10 at g10 ⊢
  have ts0 : Ts [] H5 4 (ds.length * 401) ds := Zn2 ds fun d hd => ((gd d hd).tm H5).le (by omega) (Xc _)
  have ts1 := Yaz (t := t) ts0 (wr4.fm0 x45)
  have lw : (ds.take t ++ [d4] ++ ds.drop t).length = ds.length + 1 := by simp; omega
  generalize ds.take t ++ [d4] ++ ds.drop t = ws at g10 ts1 lw
  refine w_kn ?_
  refine w_seq (Zm9 (fun σ' H' => ∃ ws p10 z9 z11, H'[p10]? = some (.lst ws) ∧ Ts [] H' 4 (ds.length * 401 + 1001 + 1001) ws ∧ ws.length ≤ 702 ∧ Fm [] H8 H' ∧ σ' = [some (.fl (ns.map .int)), some (.ref pS), some (Zah ks rss), some (.ref p3), some (.ref p4), some (.int k), some (.ref H2.length), some (.int t), z9, some (.ref p10), z11]) ?_ ?_)
  ·have g75 := (x4.trans x45).lst (by simp) g7
   (refine WP.w_if ?_; fail "g")
   refine Zay g75 hd (by omega) (by omega) fun u u0 u1 => ?_
   fail "g"
   refine ⟨fun v => ?_, fun v => ?_⟩
   ·fail "g"
    refine Zay g75 hd (by omega) (by omega) fun u' u0' u1' => ?_
    fail "g"
    refine w_mod (by omega) ?_
    obtain ⟨s, hs⟩ : ∃ s : Nat, (t : Int) + 1 + u' % ((ws.length : Int) - (t : Int)) = s := ⟨((t : Int) + 1 + u' % ((ws.length : Int) - (t : Int))).toNat, by have := Wah u' (show (ws.length : Int) - (t : Int) ≠ 0 by omega); omega⟩
    refine w_addI ?_
    rw [hs]
    refine w_kn ?_
    refine w_seq (w_set ?_)
    refine Zr4 (n := 19) rfl c hr (X5.lst (by simp) g38) (X5.lst (by simp) g4) g75 hd (by omega) gd ld lt ok fun d6 H6 x6 wr6 => ?_
    have X6 := X5.trans x6
    have g106 := x6.lst (by simp) g10
    fail "g"
    refine Zm8 g106 ?_
    fail "g"
    refine Zeg (appL last) last (by simp; omega) ?_
    fail "g"
    refine Zl4 (k := s) (by fail "lk") ?_
    fail "g"
    refine Zeg (appL last) last (by simp; omega) ?_
    fail "g"
    have e7 : ∀ H7 : HD, Fm [] H6 H7 -> Ts [] H7 4 (ds.length * 401 + 1001 + 1001) (ws.take s ++ [d6] ++ ws.drop s) := fun H7 x7 => Yaz ((ts1.fm x6).fm x7) (wr6.fm0 x7)
    have x67 := ((((Fm.refl (S := []) (H := H6)).trans (Fm.app (S := []) [DO.lst (ws.take s)])).trans (Fm.app (S := []) [DO.lst [d6]])).trans (Fm.app (S := []) [DO.lst (ws.take s ++ [d6])])).trans (Fm.app (S := []) [DO.lst (ws.drop s)]) |>.trans (Fm.app (S := []) [DO.lst (ws.take s ++ [d6] ++ ws.drop s)])
    exact ⟨rfl, _, _, _, _, last, e7 _ x67, by simp; omega, X6.trans x67, rfl⟩
   ·fail "g"
    exact ⟨rfl, ws, p10, _, _, g10, ts1.le (Xc _) (by omega), by omega, X5, rfl⟩
  rintro _ H8 ⟨ws, p10, z9, z11, g8, ts8, l8, X8, rfl⟩
  fail "i"
  refine Zyj c g8 ts8 (by omega) (by omega) (by omega) fun H9 x9 => ?_
  fail "g"
  exact ⟨X8.trans x9, _, _, _, _, _, _, rfl⟩
 subst i4
 fail "g"
 have th0 : ∀ H : HD, Th 1 H [] := fun H d h => by cases h
 refine Zki c last (th0 _) (by omega) (by simp) rfl fun pz Hz gz lz xz => ?_
 fail "g"
 refine Zws (ds := []) (Fines.nil (h := 0)) (by omega) (appL gz) last ?_
 fail "g"
 rfl
end K08
set_option maxHeartbeats 8000000
namespace K08
open PySem PySem.Spec PyProof.Rows L2 DL
nonrec def top (i : Nat) : Vw := PySem.Challenge.pw_allsome_k29_terms_made_by_steps.main.body.getD i (.Pass ⟨0, 0, 0, 0⟩)
nonrec abbrev si_NoStep : Vw := (Zyy (top 5)).getD 0 (.Pass ⟨0, 0, 0, 0⟩)
theorem Zo6 : FnScope ["self", "step"] ["self", "step"] (Zad si_NoStep) := ⟨rfl, rfl, rfl, by decide +kernel, rfl, by decide +kernel, by decide +kernel⟩
nonrec abbrev s_is_whole : Vw := top 1
theorem Znf : FnScope ["thing"] ["thing"] (Zad s_is_whole) := ⟨rfl, rfl, rfl, by decide +kernel, rfl, by decide +kernel, by decide +kernel⟩
nonrec abbrev s_is_row : Vw := top 2
theorem Zkz : FnScope ["many", "thing", "last", "literal"] ["many", "thing"] (Zad s_is_row) := ⟨rfl, rfl, rfl, by decide +kernel, rfl, by decide +kernel, by decide +kernel⟩
nonrec abbrev s_is_number_of : Vw := top 14
theorem Zif : FnScope ["thing", "many"] ["thing", "many"] (Zad s_is_number_of) := ⟨rfl, rfl, rfl, by decide +kernel, rfl, by decide +kernel, by decide +kernel⟩
nonrec abbrev s_is_name_of_other : Vw := top 15
theorem Zft : FnScope ["kinds", "side", "thing"] ["kinds", "side", "thing"] (Zad s_is_name_of_other) := ⟨rfl, rfl, rfl, by decide +kernel, rfl, by decide +kernel, by decide +kernel⟩
nonrec abbrev s_lessened : Vw := top 16
theorem Zfo : FnScope ["kinds", "side", "row", "stays"] ["kinds", "side", "row"] (Zad s_lessened) := ⟨rfl, rfl, rfl, by decide +kernel, rfl, by decide +kernel, by decide +kernel⟩
nonrec abbrev s_without : Vw := top 17
theorem Zpe : FnScope ["row", "literal"] ["row", "literal"] (Zad s_without) := ⟨rfl, rfl, rfl, by decide +kernel, rfl, by decide +kernel, by decide +kernel⟩
nonrec abbrev s_both : Vw := top 18
theorem Zno : FnScope ["one", "other", "told", "literal"] ["one", "other"] (Zad s_both) := ⟨rfl, rfl, rfl, by decide +kernel, rfl, by decide +kernel, by decide +kernel⟩
nonrec abbrev s_joined : Vw := top 19
theorem Zs5 : FnScope ["one", "other", "name"] ["one", "other", "name"] (Zad s_joined) := ⟨rfl, rfl, rfl, by decide +kernel, rfl, by decide +kernel, by decide +kernel⟩
nonrec abbrev s_made_by_less : Vw := top 20
theorem Ziw : FnScope ["kinds", "side", "made", "step"] ["kinds", "side", "made", "step"] (Zad s_made_by_less) := ⟨rfl, rfl, rfl, by decide +kernel, rfl, by decide +kernel, by decide +kernel⟩
nonrec abbrev s_made_by_joined : Vw := top 21
theorem Zg3 : FnScope ["kinds", "side", "made", "step"] ["kinds", "side", "made", "step"] (Zad s_made_by_joined) := ⟨rfl, rfl, rfl, by decide +kernel, rfl, by decide +kernel, by decide +kernel⟩
nonrec abbrev s_have_one_in_common : Vw := top 26
theorem Zex : FnScope ["one", "other"] ["one", "other"] (Zad s_have_one_in_common) := ⟨rfl, rfl, rfl, by decide +kernel, rfl, by decide +kernel, by decide +kernel⟩
nonrec abbrev s_claims_term : Vw := top 27
theorem Zfi : FnScope ["claim", "step", "row"] ["claim", "step"] (Zad s_claims_term) := ⟨rfl, rfl, rfl, by decide +kernel, rfl, by decide +kernel, by decide +kernel⟩
nonrec abbrev s_made_by : Vw := top 22
theorem Zpt : FnScope ["claim", "side", "first", "made", "step"] ["claim", "side", "first", "made", "step"] (Zad s_made_by) := ⟨rfl, rfl, rfl, by decide +kernel, rfl, by decide +kernel, by decide +kernel⟩
nonrec abbrev s_all_made : Vw := top 23
theorem Zd9 : FnScope ["claim", "side", "first", "steps", "made", "number", "step", "row"] ["claim", "side", "first", "steps"] (Zad s_all_made) := ⟨rfl, rfl, rfl, by decide +kernel, rfl, by decide +kernel, by decide +kernel⟩
nonrec abbrev s_is_paper : Vw := top 24
theorem Zis : FnScope ["claim", "side", "first", "thing", "made"] ["claim", "side", "first", "thing"] (Zad s_is_paper) := ⟨rfl, rfl, rfl, by decide +kernel, rfl, by decide +kernel, by decide +kernel⟩
nonrec abbrev s_terms_of : Vw := top 28
theorem Zid : FnScope ["claim", "steps"] ["claim", "steps"] (Zad s_terms_of) := ⟨rfl, rfl, rfl, by decide +kernel, rfl, by decide +kernel, by decide +kernel⟩
nonrec abbrev s_is_term_paper : Vw := top 29
theorem Zhh : FnScope ["claim", "thing"] ["claim", "thing"] (Zad s_is_term_paper) := ⟨rfl, rfl, rfl, by decide +kernel, rfl, by decide +kernel, by decide +kernel⟩
nonrec abbrev s_law_mix : Vw := top 31
theorem Zjs : FnScope ["cell", "k", "prime", "one"] ["cell", "k"] (Zad s_law_mix) := ⟨rfl, rfl, rfl, by decide +kernel, rfl, by decide +kernel, by decide +kernel⟩
nonrec abbrev s_law_digits : Vw := top 32
theorem Zf0 : FnScope ["cell", "many", "found", "left_over", "wide", "k"] ["cell", "many"] (Zad s_law_digits) := ⟨rfl, rfl, rfl, by decide +kernel, rfl, by decide +kernel, by decide +kernel⟩
nonrec abbrev s_law_at : Vw := top 33
theorem Zqr : FnScope ["script", "k"] ["script", "k"] (Zad s_law_at) := ⟨rfl, rfl, rfl, by decide +kernel, rfl, by decide +kernel, by decide +kernel⟩
nonrec abbrev s_law_kinds : Vw := top 34
theorem Zg5 : FnScope ["some", "many", "found", "k", "kind"] ["some", "many"] (Zad s_law_kinds) := ⟨rfl, rfl, rfl, by decide +kernel, rfl, by decide +kernel, by decide +kernel⟩
nonrec abbrev s_law_row : Vw := top 35
theorem Zjx : FnScope ["cell", "many", "wide", "some", "found", "k"] ["cell", "many", "wide"] (Zad s_law_row) := ⟨rfl, rfl, rfl, by decide +kernel, rfl, by decide +kernel, by decide +kernel⟩
nonrec abbrev s_law_claim : Vw := top 36
theorem Zg7 : FnScope ["script", "most", "some", "many", "kinds", "size", "rows"] ["script", "most"] (Zad s_law_claim) := ⟨rfl, rfl, rfl, by decide +kernel, rfl, by decide +kernel, by decide +kernel⟩
nonrec abbrev s_law_right : Vw := top 37
theorem Zlb : FnScope ["literal", "play"] ["literal", "play"] (Zad s_law_right) := ⟨rfl, rfl, rfl, by decide +kernel, rfl, by decide +kernel, by decide +kernel⟩
nonrec abbrev s_law_plays : Vw := top 38
theorem Zhg : FnScope ["many", "found", "turn", "more_plays", "one"] ["many"] (Zad s_law_plays) := ⟨rfl, rfl, rfl, by decide +kernel, rfl, by decide +kernel, by decide +kernel⟩
nonrec abbrev s_law_lost : Vw := top 39
theorem Zh5 : FnScope ["rows", "play", "row"] ["rows", "play"] (Zad s_law_lost) := ⟨rfl, rfl, rfl, by decide +kernel, rfl, by decide +kernel, by decide +kernel⟩
nonrec abbrev s_law_whole : Vw := top 40
theorem Zk0 : FnScope ["thing", "bound"] ["thing", "bound"] (Zad s_law_whole) := ⟨rfl, rfl, rfl, by decide +kernel, rfl, by decide +kernel, by decide +kernel⟩
nonrec abbrev s_law_less : Vw := top 41
theorem Zia : FnScope ["kinds", "row", "found", "k", "literal", "behind"] ["kinds", "row"] (Zad s_law_less) := ⟨rfl, rfl, rfl, by decide +kernel, rfl, by decide +kernel, by decide +kernel⟩
nonrec abbrev s_law_joined : Vw := top 42
theorem Zee : FnScope ["row", "other", "name", "found", "one"] ["row", "other", "name"] (Zad s_law_joined) := ⟨rfl, rfl, rfl, by decide +kernel, rfl, by decide +kernel, by decide +kernel⟩
nonrec abbrev s_law_is_term : Vw := top 44
theorem Zfk : FnScope ["claim", "thing", "last", "literal", "row"] ["claim", "thing"] (Zad s_law_is_term) := ⟨rfl, rfl, rfl, by decide +kernel, rfl, by decide +kernel, by decide +kernel⟩
nonrec abbrev s_law_step : Vw := top 43
theorem Zin : FnScope ["claim", "made", "step", "names"] ["claim", "made", "step"] (Zad s_law_step) := ⟨rfl, rfl, rfl, by decide +kernel, rfl, by decide +kernel, by decide +kernel⟩
nonrec abbrev s_law_made : Vw := top 45
theorem Zh2 : FnScope ["claim", "steps", "made", "step", "found"] ["claim", "steps"] (Zad s_law_made) := ⟨rfl, rfl, rfl, by decide +kernel, rfl, by decide +kernel, by decide +kernel⟩
nonrec abbrev s_law_term : Vw := top 46
theorem Zh6 : FnScope ["claim", "play", "some", "found", "row", "here", "k", "truth", "literal"] ["claim", "play", "some"] (Zad s_law_term) := ⟨rfl, rfl, rfl, by decide +kernel, rfl, by decide +kernel, by decide +kernel⟩
nonrec abbrev s_law_drawn_step : Vw := top 47
theorem Zd0 : FnScope ["claim", "made", "plays", "some", "names", "turn", "i", "j", "name"] ["claim", "made", "plays", "some"] (Zad s_law_drawn_step) := ⟨rfl, rfl, rfl, by decide +kernel, rfl, by decide +kernel, by decide +kernel⟩
nonrec abbrev s_law_drawn_steps : Vw := top 48
theorem Zdl : FnScope ["claim", "script", "at", "many", "steps", "made", "plays", "k", "some", "step"] ["claim", "script", "at", "many"] (Zad s_law_drawn_steps) := ⟨rfl, rfl, rfl, by decide +kernel, rfl, by decide +kernel, by decide +kernel⟩
nonrec abbrev s_law_many_rows : Vw := top 49
theorem Zcp : FnScope ["claim", "one", "kinds", "rows"] ["claim", "one"] (Zad s_law_many_rows) := ⟨rfl, rfl, rfl, by decide +kernel, rfl, by decide +kernel, by decide +kernel⟩
nonrec abbrev s_law_spoilt_step : Vw := top 50
theorem Zdh : FnScope ["claim", "made", "step", "some", "far", "names", "many", "row", "at", "odd", "twice", "wrong", "name"] ["claim", "made", "step", "some"] (Zad s_law_spoilt_step) := ⟨rfl, rfl, rfl, by decide +kernel, rfl, by decide +kernel, by decide +kernel⟩
nonrec abbrev s_law_refused : Vw := top 51
theorem Zfj : FnScope ["claim", "steps", "told", "e"] ["claim", "steps"] (Zad s_law_refused) := ⟨rfl, rfl, rfl, by decide +kernel, rfl, by decide +kernel, by decide +kernel⟩
nonrec abbrev s_law_plain : Vw := top 52
theorem Zhc : FnScope ["claim", "steps", "kinds", "e"] ["claim", "steps"] (Zad s_law_plain) := ⟨rfl, rfl, rfl, by decide +kernel, rfl, by decide +kernel, by decide +kernel⟩
nonrec abbrev s_law_is_due : Vw := top 53
theorem Zf7 : FnScope ["found", "due", "row"] ["found", "due"] (Zad s_law_is_due) := ⟨rfl, rfl, rfl, by decide +kernel, rfl, by decide +kernel, by decide +kernel⟩
nonrec abbrev s_law_wrong_right : Vw := top 54
theorem Zdn : FnScope ["claim", "wrong", "made", "stays", "said", "due", "handed", "found"] ["claim", "wrong"] (Zad s_law_wrong_right) := ⟨rfl, rfl, rfl, by decide +kernel, rfl, by decide +kernel, by decide +kernel⟩
nonrec abbrev s_law_good_right : Vw := top 55
theorem Zd5 : FnScope ["claim", "steps", "due", "handed", "turn", "found"] ["claim", "steps"] (Zad s_law_good_right) := ⟨rfl, rfl, rfl, by decide +kernel, rfl, by decide +kernel, by decide +kernel⟩
nonrec abbrev s_law : Vw := top 56
theorem Zvs : FnScope ["script", "some", "claim", "steps", "due", "k", "more", "at", "bad", "wrong", "later"] ["script"] (Zad s_law) := ⟨rfl, rfl, rfl, by decide +kernel, rfl, by decide +kernel, by decide +kernel⟩
structure Top (K : Xa) (mg : Str -> Option Vb) : Prop where
 t_is_whole : Tf K mg "is_whole" K08.s_is_whole
 t_is_row : Tf K mg "is_row" K08.s_is_row
 t_is_number_of : Tf K mg "is_number_of" K08.s_is_number_of
 t_is_name_of_other : Tf K mg "is_name_of_other" K08.s_is_name_of_other
 t_lessened : Tf K mg "lessened" K08.s_lessened
 t_without : Tf K mg "without" K08.s_without
 t_both : Tf K mg "both" K08.s_both
 t_joined : Tf K mg "joined" K08.s_joined
 t_made_by_less : Tf K mg "made_by_less" K08.s_made_by_less
 t_made_by_joined : Tf K mg "made_by_joined" K08.s_made_by_joined
 t_have_one_in_common : Tf K mg "have_one_in_common" K08.s_have_one_in_common
 t_claims_term : Tf K mg "claims_term" K08.s_claims_term
 t_made_by : Tf K mg "made_by" K08.s_made_by
 t_all_made : Tf K mg "all_made" K08.s_all_made
 t_is_paper : Tf K mg "is_paper" K08.s_is_paper
 t_terms_of : Tf K mg "terms_of" K08.s_terms_of
 t_is_term_paper : Tf K mg "is_term_paper" K08.s_is_term_paper
 t_law_mix : Tf K mg "_law_mix" K08.s_law_mix
 t_law_digits : Tf K mg "_law_digits" K08.s_law_digits
 t_law_at : Tf K mg "_law_at" K08.s_law_at
 t_law_kinds : Tf K mg "_law_kinds" K08.s_law_kinds
 t_law_row : Tf K mg "_law_row" K08.s_law_row
 t_law_claim : Tf K mg "_law_claim" K08.s_law_claim
 t_law_right : Tf K mg "_law_right" K08.s_law_right
 t_law_plays : Tf K mg "_law_plays" K08.s_law_plays
 t_law_lost : Tf K mg "_law_lost" K08.s_law_lost
 t_law_whole : Tf K mg "_law_whole" K08.s_law_whole
 t_law_less : Tf K mg "_law_less" K08.s_law_less
 t_law_joined : Tf K mg "_law_joined" K08.s_law_joined
 t_law_is_term : Tf K mg "_law_is_term" K08.s_law_is_term
 t_law_step : Tf K mg "_law_step" K08.s_law_step
 t_law_made : Tf K mg "_law_made" K08.s_law_made
 t_law_term : Tf K mg "_law_term" K08.s_law_term
 t_law_drawn_step : Tf K mg "_law_drawn_step" K08.s_law_drawn_step
 t_law_drawn_steps : Tf K mg "_law_drawn_steps" K08.s_law_drawn_steps
 t_law_many_rows : Tf K mg "_law_many_rows" K08.s_law_many_rows
 t_law_spoilt_step : Tf K mg "_law_spoilt_step" K08.s_law_spoilt_step
 t_law_refused : Tf K mg "_law_refused" K08.s_law_refused
 t_law_plain : Tf K mg "_law_plain" K08.s_law_plain
 t_law_is_due : Tf K mg "_law_is_due" K08.s_law_is_due
 t_law_wrong_right : Tf K mg "_law_wrong_right" K08.s_law_wrong_right
 t_law_good_right : Tf K mg "_law_good_right" K08.s_law_good_right
 t_law : Tf K mg "law" K08.s_law
 n_ValueError : mg "ValueError" = none
 n_abs : mg "abs" = none
 n_any : mg "any" = none
 n_bool : mg "bool" = none
 n_enumerate : mg "enumerate" = none
 n_int : mg "int" = none
 n_isinstance : mg "isinstance" = none
 n_len : mg "len" = none
 n_list : mg "list" = none
 n_max : mg "max" = none
 n_range : mg "range" = none
 n_repr : mg "repr" = none
 n_sorted : mg "sorted" = none
 n_str : mg "str" = none
 n_tuple : mg "tuple" = none
 y_NoStep : ∃ C Cl fI, YCl K mg "NoStep" "step" "NoStep.__init__" si_NoStep C Cl fI
 h_NoStep_NoStep : ∃ C cV, mg "NoStep" = some (.ref C) ∧ mg "NoStep" = some cV ∧ Wdm K (.ref C) cV = some true
 h_NoStep_ClaimError : ∃ C cV, mg "NoStep" = some (.ref C) ∧ mg "ClaimError" = some cV ∧ Wdm K (.ref C) cV = some true
 i_NoStep_0 : ∃ c0 c1 c2, Zxy K mg "NoStep" [c0, c1, c2] ∧ mg "NoText" = some (.ref c0) ∧ mg "NotWon" = some (.ref c1) ∧ mg "TooMany" = some (.ref c2)
 i_NoStep_1 : ∃ c0 c1 c2 c3, Zxy K mg "NoStep" [c0, c1, c2, c3] ∧ mg "NoBack" = some (.ref c0) ∧ mg "NoLine" = some (.ref c1) ∧ mg "NoPick" = some (.ref c2) ∧ mg "NoRow" = some (.ref c3)
 v_claims_term : Fv K mg "claims_term"
 o_NoStep : IsiO K mg "NoStep"
section
variable {P : Vf} {w : Vk} {K : Xa} {mg : Str -> Option Vb} {base : Vu}
theorem okI_NoStep (T : Top K mg) : YRs P w K mg base "NoStep" "step" 1 := by
 obtain ⟨C, Cl, fI, Y⟩ := T.y_NoStep
 obtain ⟨fd, F⟩ := Y.fn
 exact ⟨C, Cl, fI, fd, ["self", "step"], Y.bound, Y.kp, Y.ini, Ybv (k := 0) (ln := "step") Y.ini Y.base F Zo6 rfl (by decide) (by decide) rfl rfl rfl (fun L cdv => ⟨_, rfl⟩), F.binds (fun _ _ _ _ _ _ us hl => by obtain ⟨_, _, rfl⟩ := us2 hl; rfl), Y.look⟩
local macro_rules | `(tactic| fail $s:str) => do
 if s.getString.take 1 != "~" then Lean.Macro.throwUnsupported
 let i := fun (x : String) => Lean.mkIdent x.toName
 let mut o : Array (Lean.TSyntax `tactic) := #[]
 for w in (s.getString.drop 1).toString.splitOn " " do
  o := o.push (← match w with
   | "a" => `(tactic| rfl)
   | "b" => `(tactic| refine paf_c ?_ ?_ ?_)
   | "c" => `(tactic| exact Zi3)
   | "d" => `(tactic| refine Zgi ?_ ?_)
   | "e" => `(tactic| refine Zgi ?_ Zh0)
   | "f" => `(tactic| first | exact Or.inl rfl | exact Or.inr rfl)
   | "g" => `(tactic| exact $(i "nd"))
   | "h" => `(tactic| exact (Zab (pv 0)))
   | "i" => `(tactic| refine Zwl ?_ ?_ Zh0)
   | "j" => `(tactic| exact (Zab (pv 1)))
   | "k" => `(tactic| refine Zdu Zsi ?_ $(i "T.n_len") Yan ?_)
   | "l" => `(tactic| refine Zey ?_)
   | "m" => `(tactic| exact (Zab (pv 2)))
   | "n" => `(tactic| refine Zal Zdt ?_ Zag)
   | "o" => `(tactic| exact Zag)
   | "p" => `(tactic| intro _ _ _ _ _ _)
   | "q" => `(tactic| exact Zbl ixf (Zab (pv 3)) Zag (fun _ _ => rfl))
   | "r" => `(tactic| refine Zk9 ?_ (fun _ => rfl))
   | "s" => `(tactic| exact (Zab (pv 3)))
   | "t" => `(tactic| refine Zrr ?_)
   | "u" => `(tactic| refine PWf.pt ?_)
   | "v" => `(tactic| exact Znn)
   | "w" => `(tactic| refine Zsz ?_)
   | "x" => `(tactic| exact Zbl ixf (Zab (pv 2)) Zag (fun _ _ => rfl))
   | "y" => `(tactic| refine Zyo ?_)
   | "z" => `(tactic| refine Zze PassesOwn.never ?_ ?_ ?_ ?_)
   | "A" => `(tactic| exact Zrr Zi3)
   | "B" => `(tactic| exact Zey Zlv)
   | "C" => `(tactic| refine Ycl ?_ ?_)
   | "D" => `(tactic| exact (Zab (pv 4)))
   | "E" => `(tactic| with_unfolding_all rfl)
   | "F" => `(tactic| refine Zal Zat ?_ ?_)
   | "G" => `(tactic| refine Zyw ?_)
   | "H" => `(tactic| refine Zdu Zr6 ?_ $(i "T.n_isinstance") Zke ?_)
   | "I" => `(tactic| exact Zbl ixf (Zab (pv 0)) Zag (fun _ _ => rfl))
   | "J" => `(tactic| refine Zan (Zg9 $(i "hr.units")) ?_ Zag (Zar _))
   | "K" => `(tactic| refine Zty ?_)
   | "L" => `(tactic| refine Za9 (i := 3) ?_ ?_ ?_ ?_)
   | "M" => `(tactic| exact Zey Zcy)
   | "N" => `(tactic| refine Zbl ixf ?_ ?_ (fun _ _ => rfl))
   | "O" => `(tactic| refine Za9 (i := 4) ?_ ?_ ?_ ?_)
   | "P" => `(tactic| refine Za9 (i := 2) ?_ ?_ ?_ ?_)
   | "Q" => `(tactic| refine Zpc ?_ $(i "T.n_range") ?_)
   | "R" => `(tactic| exact Zbl ixf (Zab (pv 1)) Zag (fun _ _ => rfl))
   | "S" => `(tactic| refine Zal Zdt ?_ ?_)
   | "T" => `(tactic| refine Zyt ?_ ?_)
   | "U" => `(tactic| refine Ze6 Znb ?_ $(i "T.n_tuple") Zor ?_)
   | "V" => `(tactic| refine Zdu Zri ?_ $(i "T.n_abs") Zrp ?_)
   | "W" => `(tactic| exact (Zab (pv 6)))
   | "X" => `(tactic| exact Zcu Zag)
   | "Y" => `(tactic| refine Zuh ?_)
   | "Z" => `(tactic| refine Zy1 ?_ ?_)
   | "0" => `(tactic| refine Zva ?_)
   | "1" => `(tactic| exact Zlv)
   | "2" => `(tactic| refine Zal Zds ?_ Zag)
   | "3" => `(tactic| exact Ziv Zfp Zag)
   | "4" => `(tactic| refine Zdp ?_)
   | "5" => `(tactic| refine Ze6 Zpd ?_ $(i "T.n_list") Zna ?_)
   | "6" => `(tactic| refine Za9 (i := 7) ?_ ?_ ?_ ?_)
   | "7" => `(tactic| refine Zcj (i := 3) ?_ ?_ ?_)
   | "8" => `(tactic| exact (Zab (pv 5)))
   | "9" => `(tactic| exact Zsz Zi3)
   | "aa" => `(tactic| refine Zxo ?_)
   | "ab" => `(tactic| refine Zj4 Um Uo Zcw (Zab (pv 2)) ?_)
   | "ac" => `(tactic| refine Zbl ixf (Zab (pv 1)) ?_ (fun _ _ => rfl))
   | "ad" => `(tactic| refine Zcj (i := 5) ?_ ?_ ?_)
   | "ae" => `(tactic| refine Zcj (i := 4) ?_ ?_ ?_)
   | "af" => `(tactic| refine Zal Zat ?_ Zag)
   | "ag" => `(tactic| exact (Zab (pv 7)))
   | "ah" => `(tactic| exact (Zab (pv 8)))
   | "aj" => `(tactic| refine Zcu ?_)
   | "ao" => `(tactic| refine Zbl ixf (Zab (pv 2)) ?_ (fun _ _ => rfl))
   | "ap" => `(tactic| refine Zan (Zg9 $(i "hr.units")) ?_ Znn (Zar _))
   | "ar" => `(tactic| exact Zal Zat (Zab (pv 1)) Zag)
   | "as" => `(tactic| exact Zal Zat (Zab (pv 5)) Zag)
   | "at" => `(tactic| refine Zal Zat (Zab (pv 3)) ?_)
   | "au" => `(tactic| refine Zg8 ?_ $(i "T.n_tuple") Zor)
   | "av" => `(tactic| refine Za9 (i := 5) ?_ ?_ ?_ ?_)
   | "aw" => `(tactic| refine Za9 (i := 8) ?_ ?_ ?_ ?_)
   | "ax" => `(tactic| refine Zg8 ?_ $(i "T.n_bool") Zyz)
   | "ay" => `(tactic| refine Zcj (i := 2) ?_ ?_ ?_)
   | "az" => `(tactic| exact Zcu (Zab (pv 8)))
   | "aA" => `(tactic| exact Zdp (Zab (pv 1)))
   | "aB" => `(tactic| refine Zk2 ?_ Ztp)
   | "aC" => `(tactic| exact $(i "hr.mono") (by decide))
   | "aD" => `(tactic| refine Zk2 ?_ ?_)
   | "aE" => `(tactic| exact (Zab (pv 9)))
   | "aF" => `(tactic| refine Zj4 Um Uo Zcw (Zab (pv 4)) ?_)
   | "aK" => `(tactic| refine Zap (Zab (pv 7)) ?_ Zaz)
   | "aO" => `(tactic| exact Zcu (Zab (pv 7)))
   | "aP" => `(tactic| exact Zdp (Zab (pv 0)))
   | "aQ" => `(tactic| exact Zey (Zab (pv 2)))
   | "U1" => `(tactic| (intro _ _ _ _ _ _ us hl; obtain ⟨_, e⟩ := us1 hl; subst e; rfl))
   | "U2" => `(tactic| (intro _ _ _ _ _ _ us hl; obtain ⟨_, _, e⟩ := us2 hl; subst e; rfl))
   | "U3" => `(tactic| (intro _ _ _ _ _ _ us hl; obtain ⟨_, _, _, e⟩ := us3 hl; subst e; rfl))
   | "U4" => `(tactic| (intro _ _ _ _ _ _ us hl; obtain ⟨_, _, _, _, e⟩ := us4 hl; subst e; rfl))
   | "U5" => `(tactic| (intro _ _ _ _ _ _ us hl; obtain ⟨_, _, _, _, _, e⟩ := us5 hl; subst e; rfl))
   | _ => Lean.Macro.throwUnsupported)
 `(tactic| ($[$o]*))
theorem ok_is_whole (T : Top K mg) : Fn P w K mg base 1 "is_whole" ["thing"] Zd8 := by
 refine (fun h => h : _ → Fn P w K mg base 1 "is_whole" ["thing"] (Za0 1 1 Zdw)) (Za5 (N := ["thing"]) (k := 0) T.t_is_whole Znf (by fail "~U1") ?_)
 intro f cdv A outer s H E hr
 unfold Zdw
 fail "~e l Z H a b h b"
 refine Zg8 ?_ T.n_int Zmo
 fail "~a c a a aa"
 refine Zry ?_
 fail "~H a b h b ax a c a a"
theorem Zsg (T : Top K mg) : Fn P w K mg base 2 "is_row" ["many", "thing"] Zhx := by
 refine (fun h => h : _ → Fn P w K mg base 2 "is_row" ["many", "thing"] (Za0 2 4 Zec)) (Za5 (N := ["many", "thing", "last", "literal"]) (k := 1) T.t_is_row Zkz (by fail "~U2") ?_)
 intro f cdv A outer s H E hr
 unfold Zec
 have nd := Zkz.nd
 fail "~d i y r H a b j b au a c a a e B d"
 refine Za9 (i := 2) ?_ ?_ ?_ Zag
 fail "~g a f d z a aA 7 g a f d i u C y r"
 refine Zao (ok_is_whole T) (hr.mono (by decide)) ?_ ?_
 fail "~a b s c a C"
 refine Zan Zjw ?_ (Zab (pv 2)) (Zar _)
 fail "~V a b s c a G"
 refine Zan Zh4 ?_ (Zab (pv 0)) (Zar _)
 fail "~V a b s c a e B e P g a f V a b s c a e B"
theorem ok_is_number_of (T : Top K mg) : Fn P w K mg base 2 "is_number_of" ["thing", "many"] Zbu := by
 refine (fun h => h : _ → Fn P w K mg base 2 "is_number_of" ["thing", "many"] (Za0 2 2 Zbs)) (Za5 (N := ["thing", "many"]) (k := 1) T.t_is_number_of Zif (by fail "~U2") ?_)
 intro f cdv A outer s H E hr
 unfold Zbs
 fail "~e l Z"
 refine Zao (ok_is_whole T) (hr.mono (by decide)) ?_ ?_
 fail "~a b h c a aa"
 refine Zir Zjw Zjy Zag (Zab (pv 0)) (Zab (pv 1)) ?_
 fail "~E"
theorem Zfs (T : Top K mg) : Fn P w K mg base 2 "is_name_of_other" ["kinds", "side", "thing"] Zb3 := by
 refine (fun h => h : _ → Fn P w K mg base 2 "is_name_of_other" ["kinds", "side", "thing"] (Za0 3 3 Za3)) (Za5 (N := ["kinds", "side", "thing"]) (k := 1) T.t_is_name_of_other Zft (by fail "~U3") ?_)
 intro f cdv A outer s H E hr
 unfold Za3
 fail "~e l Z"
 refine Zao (ok_is_whole T) (hr.mono (by decide)) ?_ ?_
 fail "~a b m c a Z"
 refine Zir Zjw Zjw Zag (Zab (pv 2)) ?_ ?_
 fail "~k a b h c a E aa"
 refine Zei (Zdd hr.units) ?_ (Zab (pv 1)) (Zar _)
 refine Zbl ixf (Zab (pv 0)) ?_ (fun _ _ => rfl)
 exact Zal Zds (Zab (pv 2)) Zag
theorem Zm6 (T : Top K mg) : Fn P w K mg base 1 "lessened" ["kinds", "side", "row"] Zg0 := by
 refine (fun h => h : _ → Fn P w K mg base 1 "lessened" ["kinds", "side", "row"] (Za0 3 4 Zd6)) (Za5 (N := ["kinds", "side", "row", "stays"]) (k := 0) T.t_lessened Zfo (by fail "~U3") ?_)
 intro f cdv A outer s H E hr
 unfold Zd6
 fail "~d L"
 exact Zfo.nd
 fail "~a f k a b m c a d"
 refine Zro PassesOwn.never ?_ ?_
 fail "~u T"
 exact Zan Zh4 (Zab (pv 3)) Zag (Zar _)
 fail "~0"
 refine Zan (Zg9 hr.units) ?_ (Zab (pv 1)) (Zar _)
 refine Zbl ixf (Zab (pv 0)) ?_ (fun _ _ => rfl)
 fail "~2 V a b ao"
 exact Zal Zds (Zab (pv 3)) Zag
 fail "~c a e"
 refine Zxv (i := 3) Ybu ?_ ?_ ?_ Zag
 exact Zfo.nd
 fail "~a f e l"
 refine Zap (Zab (pv 2)) Zaz ?_
 exact Zcu (Zab (pv 3))
theorem Zjq (T : Top K mg) : Fn P w K mg base 1 "without" ["row", "literal"] Zgf := by
 refine (fun h => h : _ → Fn P w K mg base 1 "without" ["row", "literal"] (Za0 2 2 Ze0)) (Za5 (N := ["row", "literal"]) (k := 0) T.t_without Zpe (by fail "~U2") ?_)
 intro f cdv A outer s H E hr
 unfold Ze0
 fail "~e l U a b"
 refine Zfg (cn := ["literal"]) ?_ (Zck (x := "other") (cn := ["literal"]) (ci := [1]) (by decide +kernel)) ?_ ?_ ?_
 fail "~a aP p Y"
 exact Zan (Zdd hr.units) (Zab (pv 0)) (Zab (pv 1)) (Zar _)
 fail "~p h c a"
theorem Zw1 (T : Top K mg) : Fn P w K mg base 1 "both" ["one", "other"] Zq8 := by
 refine (fun h => h : _ → Fn P w K mg base 1 "both" ["one", "other"] (Za0 2 4 Zla)) (Za5 (N := ["one", "other", "told", "literal"]) (k := 0) T.t_both Zno (by fail "~U2") ?_)
 intro f cdv A outer s H E hr
 unfold Zla
 fail "~d P"
 exact Zno.nd
 fail "~a f 5 a b h c a d z a aA 7"
 exact Zno.nd
 fail "~a f d i"
 refine Zan (Zjv hr.units) ?_ (Zab (pv 0)) ?_
 exact Ziv Zfp (Zab (pv 3))
 fail "~E e M e i"
 refine Zan (Zip hr.units) (Zab (pv 3)) (Zab (pv 0)) ?_
 fail "~E e K ab b s c a e l U a b"
 refine Zlu ?_ T.n_sorted ?_ T.n_abs ?_
 fail "~a a b m c a c a"
theorem Zrn (T : Top K mg) : Fn P w K mg base 2 "joined" ["one", "other", "name"] Zkd := by
 refine (fun h => h : _ → Fn P w K mg base 2 "joined" ["one", "other", "name"] (Za0 3 3 Zge)) (Za5 (N := ["one", "other", "name"]) (k := 1) T.t_joined Zs5 (by fail "~U3") ?_)
 intro f cdv A outer s H E hr
 unfold Zge
 fail "~d i u C"
 refine Zan (Zip hr.units) (Zab (pv 2)) (Zab (pv 0)) ?_
 fail "~E G"
 refine Zan (Zip hr.units) ?_ (Zab (pv 1)) ?_
 exact Ziv Zfp (Zab (pv 2))
 fail "~E e M e l"
 refine Zao (Zw1 T) (hr.mono (by decide)) ?_ ?_
 fail "~a b"
 refine Zao (Zjq T) (hr.mono (by decide)) ?_ ?_
 fail "~a b h b m c a a b"
 refine Zao (Zjq T) (hr.mono (by decide)) ?_ ?_
 fail "~a b j b"
 exact Ziv Zfp (Zab (pv 2))
 fail "~c a a c a a"
theorem Zit (T : Top K mg) : Fn P w K mg base 3 "made_by_less" ["kinds", "side", "made", "step"] Zdr := by
 refine (fun h => h : _ → Fn P w K mg base 3 "made_by_less" ["kinds", "side", "made", "step"] (Za0 4 4 Zbt)) (Za5 (N := ["kinds", "side", "made", "step"]) (k := 2) T.t_made_by_less Ziw (by fail "~U4") ?_)
 intro f cdv A outer s H E hr
 unfold Zbt
 fail "~d i u C"
 refine Zan (Zdd hr.units) ?_ Zag (Zar _)
 fail "~k a b s c a G y r"
 refine Zao (ok_is_number_of T) (hr.mono (by decide)) ?_ ?_
 fail "~a b q b k a b m c a c a a e M e l"
 refine Zao (Zm6 T) (hr.mono (by decide)) ?_ ?_
 fail "~a b h b j b ao q c a a a"
theorem Zgt (T : Top K mg) : Fn P w K mg base 3 "made_by_joined" ["kinds", "side", "made", "step"] Zcq := by
 refine (fun h => h : _ → Fn P w K mg base 3 "made_by_joined" ["kinds", "side", "made", "step"] (Za0 4 4 Zbg)) (Za5 (N := ["kinds", "side", "made", "step"]) (k := 2) T.t_made_by_joined Zg3 (by fail "~U4") ?_)
 intro f cdv A outer s H E hr
 unfold Zbg
 fail "~d i u C"
 refine Zan (Zdd hr.units) ?_ Zag (Zar _)
 fail "~k a b s c a C y r"
 refine Zao (ok_is_number_of T) (hr.mono (by decide)) ?_ ?_
 fail "~a b q b k a b m c a c a a G y r"
 refine Zao (ok_is_number_of T) (hr.mono (by decide)) ?_ ?_
 fail "~a b q b k a b m c a c a a e M d i y r"
 refine Zao (Zfs T) (hr.mono (by decide)) ?_ ?_
 fail "~a b h b j b q c a a a e M e l"
 refine Zao (Zrn T) (hr.mono (by decide)) ?_ ?_
 fail "~a b ao q b ao q b q c a a a"
theorem Zet (T : Top K mg) : Fn P w K mg base 1 "have_one_in_common" ["one", "other"] Zbq := by
 refine (fun h => h : _ → Fn P w K mg base 1 "have_one_in_common" ["one", "other"] (Za0 2 2 Zav)) (Za5 (N := ["one", "other"]) (k := 0) T.t_have_one_in_common Zex (by fail "~U2") ?_)
 intro f cdv A outer s H E hr
 unfold Zav
 fail "~e l"
 refine Zdu (Zsc (by rfl)) ?_ T.n_any Yaq ?_
 fail "~a b"
 refine Zfg (cn := ["other"]) ?_ (Zck (x := "literal") (cn := ["other"]) (ci := [1]) (by decide +kernel)) ?_ ?_ ?_
 fail "~a aP p"
 exact Zej
 fail "~p"
 refine Zei (Zjv hr.units) (Zab (pv 0)) (Zab (pv 1)) ?_
 fail "~E c a"
theorem Zi8 (T : Top K mg) : Fn P w K mg base 3 "claims_term" ["claim", "step"] Zed := by
 refine (fun h => h : _ → Fn P w K mg base 3 "claims_term" ["claim", "step"] (Za0 2 3 Zb2)) (Za5 (N := ["claim", "step", "row"]) (k := 2) T.t_claims_term Zfi (by fail "~U2") ?_)
 intro f cdv A outer s H E hr
 unfold Zb2
 fail "~d i u C"
 refine Zan (Zdd hr.units) ?_ Zag (Zar _)
 fail "~k a b j c a C"
 refine Zan (Zdd hr.units) ?_ Znn (Zar _)
 fail "~R G y r"
 refine Zao (Zsg T) (hr.mono (by decide)) ?_ ?_
 fail "~a b k a b I c a b R c a a e M d z a 4 I ay"
 exact Zfi.nd
 fail "~a f e i y r"
 refine Zao (Zet T) (hr.mono (by decide)) ?_ ?_
 fail "~a b m b R c a a e M e l R"
theorem ok_made_by (T : Top K mg) : Fn P w K mg base 4 "made_by" ["claim", "side", "first", "made", "step"] Zc4 := by
 refine (fun h => h : _ → Fn P w K mg base 4 "made_by" ["claim", "side", "first", "made", "step"] (Za0 5 5 Zez)) (Za5 (N := ["claim", "side", "first", "made", "step"]) (k := 3) T.t_made_by Zpt (by fail "~U5") ?_)
 intro f cdv A outer s H E hr
 unfold Zez
 fail "~d i u C y r H a b D b au a c a a G J k a b D c a e M d i ap"
 exact Zbl ixf (Zab (pv 4)) Zag (fun _ _ => rfl)
 fail "~e l"
 refine Zao (Zit T) (hr.mono (by decide)) ?_ ?_
 fail "~a b I b j b s b D c a a a a d i ap"
 exact Zbl ixf (Zab (pv 4)) Zag (fun _ _ => rfl)
 fail "~e l"
 refine Zao (Zgt T) (hr.mono (by decide)) ?_ ?_
 fail "~a b I b j b s b D c a a a a e l"
 refine Zrd (i := 2) (Zi8 T) T.v_claims_term (hr.mono (by decide)) (pv 2) ?_
 fail "~b h b D c a a"
theorem Zh1 (T : Top K mg) : Fn P w K mg base 5 "all_made" ["claim", "side", "first", "steps"] Zd2 := by
 refine (fun h => h : _ → Fn P w K mg base 5 "all_made" ["claim", "side", "first", "steps"] (Za0 4 8 Zcd)) (Za5 (N := ["claim", "side", "first", "steps", "made", "number", "step", "row"]) (k := 4) T.t_all_made Zd9 (by fail "~U4") ?_)
 intro f cdv A outer s H E hr
 unfold Zcd
 have nd := Zd9.nd
 fail "~d O g a f A d z a"
 refine Zl1 ?_ T.n_enumerate ?_
 fail "~a b s c a"
 refine Zij ?_ ?_
 fail "~a aD ad g a f aB"
 refine Zcj (i := 6) ?_ ?_ ?_
 fail "~g a f d 6 g a f"
 refine Zao (ok_made_by T) (hr.mono (by decide)) ?_ ?_
 fail "~a b h b j b m b D b W c a a a a a d i"
 exact Zan Zwv (Zab (pv 7)) Zcy (Zar _)
 exact Zgi Zsu Zh0
 fail "~e K aF b ag c a e"
 exact Zey (Zab (pv 4))
theorem Zhe (T : Top K mg) : FnY P w K mg base 5 "all_made" ["claim", "side", "first", "steps"] "NoStep" (some "step") Zfb := by
 refine (fun h => h : _ → FnY P w K mg base 5 "all_made" ["claim", "side", "first", "steps"] "NoStep" (some "step") (Zt8 4 8 Zc8)) (Ybf (N := ["claim", "side", "first", "steps", "made", "number", "step", "row"]) (k := 4) T.t_all_made Zd9 (by fail "~U4") ?_)
 intro C hE f cdv A outer s H E hr
 unfold Zc8
 have nd := Zd9.nd
 refine Znz ?_ ?_
 fail "~O g a f A"
 refine Zok ?_
 refine Zxf ?_ ?_ ?_ ?_ ?_ ?_
 exact po_cx
 fail "~a"
 refine Zl1 ?_ T.n_enumerate ?_
 fail "~a b s c a"
 refine Zij ?_ ?_
 fail "~a aD ad g a f aB"
 refine Zcj (i := 6) ?_ ?_ ?_
 fail "~g a f d 6 g a f"
 refine Zao (ok_made_by T) (hr.mono (by decide)) ?_ ?_
 fail "~a b h b j b m b D b W c a a a a a d i"
 exact Zan Zwv (Zab (pv 7)) Zcy (Zar _)
 exact Zgi Zsu Zh0
 fail "~e K aF b ag c a"
 refine Znz ?_ ?_
 fail "~6 g a f"
 refine Zao (ok_made_by T) (hr.mono (by decide)) ?_ ?_
 fail "~a b h b j b m b D b W c a a a a a"
 refine Zok ?_
 refine Yak ?_ ?_ py_no
 exact Zan Zwv (Zab (pv 7)) Zcy (Zar _)
 refine Zok ?_
 refine Zqv (k := 1) ?_ ?_ ?_ ?_ ?_
 exact (okI_NoStep T)
 exact hE
 fail "~a aC"
 exact Zot (Zab (pv 5)) Zi3
theorem Znv (T : Top K mg) : Fn P w K mg base 6 "is_paper" ["claim", "side", "first", "thing"] Zjp := by
 refine (fun h => h : _ → Fn P w K mg base 6 "is_paper" ["claim", "side", "first", "thing"] (Za0 4 5 Zd3)) (Za5 (N := ["claim", "side", "first", "thing", "made"]) (k := 5) T.t_is_paper Zis (by fail "~U4") ?_)
 intro f cdv A outer s H E hr
 unfold Zd3
 obtain ⟨C, cV, hE, hmc, hex⟩ := T.h_NoStep_NoStep
 fail "~d i y r H a b s b"
 refine Zg8 ?_ T.n_list Zna
 fail "~a c a a e B d"
 refine Ztu (k := 5) (C := C) (cV := cV) (xn := "NoStep") (av := some "step") (ps := ["claim", "side", "first", "steps"]) ?_ ?_ ?_ ?_ ?_ ?_ ?_ ?_
 fail "~e O"
 exact Zis.nd
 fail "~a f"
 refine Zao (Zh1 T) (hr.mono (by decide)) ?_ ?_
 fail "~a b h b j b m b s c a a a a"
 exact (Zhe T)
 exact hE
 fail "~aC b h b j b m b s c a a a a"
 exact hmc
 exact hex
 intro ex
 fail "~e B e l Z"
 refine Zei Zh4 ?_ Zag (Zar _)
 fail "~k a b D c a aa"
 refine Zei (Zg9 hr.units) ?_ ?_ (Zar _)
 refine Zbl ixf (Zab (pv 4)) ?_ (fun _ _ => rfl)
 fail "~3 9"
theorem ok_terms_of (T : Top K mg) : Fn P w K mg base 6 "terms_of" ["claim", "steps"] Zbz := by
 refine (fun h => h : _ → Fn P w K mg base 6 "terms_of" ["claim", "steps"] (Za0 2 2 Zcf)) (Za5 (N := ["claim", "steps"]) (k := 5) T.t_terms_of Zid (by fail "~U2") ?_)
 intro f cdv A outer s H E hr
 unfold Zcf
 fail "~e l"
 refine Zao (Zh1 T) (hr.mono (by decide)) ?_ ?_
 fail "~a b h b v b"
 exact Zqq T.v_claims_term
 fail "~b j c a a a a"
theorem Zha (T : Top K mg) : FnY P w K mg base 6 "terms_of" ["claim", "steps"] "NoStep" (some "step") Ze3 := by
 refine (fun h => h : _ → FnY P w K mg base 6 "terms_of" ["claim", "steps"] "NoStep" (some "step") (Zt8 2 2 Zc0)) (Ybf (N := ["claim", "steps"]) (k := 5) T.t_terms_of Zid (by fail "~U2") ?_)
 intro C hE f cdv A outer s H E hr
 unfold Zc0
 refine Zok ?_
 refine Zw8 ?_
 refine Ybi (k := 5) (xn := "NoStep") (ps := ["claim", "side", "first", "steps"]) ?_ ?_ ?_ ?_
 exact (Zhe T)
 exact hE
 fail "~aC b h b v b"
 exact Zqq T.v_claims_term
 fail "~b j c a a a a"
theorem Zhk (T : Top K mg) : Fn P w K mg base 7 "is_term_paper" ["claim", "thing"] Zc6 := by
 refine (fun h => h : _ → Fn P w K mg base 7 "is_term_paper" ["claim", "thing"] (Za0 2 2 Zbo)) (Za5 (N := ["claim", "thing"]) (k := 6) T.t_is_term_paper Zhh (by fail "~U2") ?_)
 intro f cdv A outer s H E hr
 unfold Zbo
 fail "~e l"
 refine Zao (Znv T) (hr.mono (by decide)) ?_ ?_
 fail "~a b h b v b"
 exact Zqq T.v_claims_term
 fail "~b j c a a a a"
theorem Zpr (T : Top K mg) : Fn P w K mg base 1 "_law_mix" ["cell", "k"] Zh7 := by
 refine (fun h => h : _ → Fn P w K mg base 1 "_law_mix" ["cell", "k"] (Za0 2 4 Zes)) (Za5 (N := ["cell", "k", "prime", "one"]) (k := 0) T.t_law_mix Zjs (by fail "~U2") ?_)
 intro f cdv A outer s H E hr
 unfold Zes
 have nd := Zjs.nd
 fail "~d P g a f N t b o b o b o b o b o b o b o c a a a a a a a"
 exact Zal Zdt (Zab (pv 1)) Zag
 fail "~d L g a f"
 refine Zal Zdt ?_ (Zab (pv 2))
 refine Zal Zfw ?_ ?_
 fail "~F"
 exact Zal Zdt (Zab (pv 0)) Zag
 refine Zal Zfw Zag ?_
 fail "~ar af F"
 exact Zal Zfw (Zab (pv 1)) (Zab (pv 1))
 exact Zal Zfw Zag (Zab (pv 1))
 fail "~d L g a f n"
 exact Zal Zik (Zab (pv 3)) Zag
 fail "~d L g a f"
 refine Zal Zdt ?_ (Zab (pv 2))
 fail "~af F"
 exact Zal Zfw (Zab (pv 3)) Zag
 exact Zal Zfw Zag (Zab (pv 1))
 fail "~e l"
 refine Zal Ze9 ?_ Zag
 fail "~n"
 exact Zal Zik (Zab (pv 3)) Zag
theorem ok_law_digits (T : Top K mg) : Fn P w K mg base 2 "_law_digits" ["cell", "many"] Zbk := by
 refine (fun h => h : _ → Fn P w K mg base 2 "_law_digits" ["cell", "many"] (Za0 2 6 Zcn)) (Za5 (N := ["cell", "many", "found", "left_over", "wide", "k"]) (k := 1) T.t_law_digits Zf0 (by fail "~U2") ?_)
 intro f cdv A outer s H E hr
 unfold Zcn
 have nd := Zf0.nd
 fail "~d P g a f A d L g a f V a b h c a d O g a f"
 refine Zei Ybg (Zab (pv 3)) ?_ (Zar _)
 exact Zal Zik Zag Zag
 fail "~d z a Q a b j c a ad g a f e"
 refine Zwl ?_ ?_ ?_
 fail "~u T"
 exact Zk9 (Zab (pv 4)) (fun _ => rfl)
 fail "~0"
 exact Zan Zh4 (Zab (pv 3)) Zag (Zar _)
 fail "~d K ab b"
 exact Zal Zdt (Zab (pv 3)) Zag
 fail "~c a e L g a f"
 exact Zal Ze9 (Zab (pv 3)) Zag
 fail "~e K ab b"
 refine Zao (Zpr T) (hr.mono (by decide)) ?_ ?_
 fail "~a b h b 8 c a a c a e aQ"
theorem ok_law_at (T : Top K mg) : Fn P w K mg base 1 "_law_at" ["script", "k"] Zdo := by
 refine (fun h => h : _ → Fn P w K mg base 1 "_law_at" ["script", "k"] (Za0 2 2 Zf9)) (Za5 (N := ["script", "k"]) (k := 0) T.t_law_at Zqr (by fail "~U2") ?_)
 intro f cdv A outer s H E hr
 unfold Zf9
 fail "~d i"
 refine Zan Zjy (Zab (pv 1)) ?_ (Zar _)
 fail "~k a b h c a e l"
 exact Zbl ixf (Zab (pv 0)) (Zab (pv 1)) (fun _ _ => rfl)
 fail "~e l F af"
 exact Zal Zfw Zag (Zab (pv 1))
 fail "~k a b h c a"
theorem Zk7 (T : Top K mg) : Fn P w K mg base 1 "_law_kinds" ["some", "many"] Zfx := by
 refine (fun h => h : _ → Fn P w K mg base 1 "_law_kinds" ["some", "many"] (Za0 2 5 Zc9)) (Za5 (N := ["some", "many", "found", "k", "kind"]) (k := 0) T.t_law_kinds Zg5 (by fail "~U2") ?_)
 intro f cdv A outer s H E hr
 unfold Zc9
 have nd := Zg5.nd
 fail "~d P g a f A d z a Q a b j c a 7 g a f d O g a f N t b v b v c a a n"
 refine Zbl ixf (Zab (pv 0)) ?_ (fun _ _ => rfl)
 exact Zal Zat Zag (Zab (pv 3))
 fail "~d i J n I e O g a f N t b v b v c a a n at I d i J n I e O g a f N t b v b v c a a"
 refine Ze6 Zmg ?_ T.n_int Zmo ?_
 fail "~a b"
 refine Zei Zh4 ?_ Zag (Zar _)
 fail "~n"
 refine Zbl ixf (Zab (pv 0)) ?_ (fun _ _ => rfl)
 exact Zal Zat Zag (Zab (pv 3))
 fail "~c a e K ab b D c a e l U a b m c a"
theorem Zps (T : Top K mg) : Fn P w K mg base 3 "_law_row" ["cell", "many", "wide"] Zh8 := by
 refine (fun h => h : _ → Fn P w K mg base 3 "_law_row" ["cell", "many", "wide"] (Za0 3 6 Ze2)) (Za5 (N := ["cell", "many", "wide", "some", "found", "k"]) (k := 2) T.t_law_row Zjx (by fail "~U3") ?_)
 intro f cdv A outer s H E hr
 unfold Ze2
 have nd := Zjx.nd
 fail "~d L g a f"
 refine Zao (ok_law_digits T) (hr.mono (by decide)) ?_ ?_
 fail "~a b h b ar c a a d O g a f A d z a Q a b j c a ad g a f e i"
 refine Zan Zjy ?_ ?_ (Zar _)
 fail "~S"
 refine Zbl ixf (Zab (pv 3)) ?_ (fun _ _ => rfl)
 exact Zal Zat Zag (Zab (pv 5))
 fail "~ar"
 refine Zal Zat (Zab (pv 2)) ?_
 fail "~n q e K aF b N t b as b 2"
 exact Zal Zds Zag (Zab (pv 5))
 fail "~c a a n"
 refine Zal Ze9 ?_ ?_
 refine Zbl ixf (Zab (pv 3)) ?_ (fun _ _ => rfl)
 exact Zal Zat Zag (Zab (pv 5))
 fail "~ar c a e l U a b D c a"
theorem Zld (T : Top K mg) : Fn P w K mg base 4 "_law_claim" ["script", "most"] Zfq := by
 refine (fun h => h : _ → Fn P w K mg base 4 "_law_claim" ["script", "most"] (Za0 2 7 Zc7)) (Za5 (N := ["script", "most", "some", "many", "kinds", "size", "rows"]) (k := 3) T.t_law_claim Zg7 (by fail "~U2") ?_)
 intro f cdv A outer s H E hr
 unfold Zc7
 have nd := Zg7.nd
 fail "~d P g a f"
 refine Zao (ok_law_digits T) (hr.mono (by decide)) ?_ ?_
 fail "~a b"
 refine Zao (ok_law_at T) (hr.mono (by decide)) ?_ ?_
 fail "~a b h b o c a a b o c a a d L g a f N t b S x ar b"
 refine Zal Zds (Zab (pv 1)) ?_
 fail "~n x b j c a a a n x d O g a f"
 refine Zao (Zk7 T) (hr.mono (by decide)) ?_ ?_
 fail "~a b"
 refine Zap (Zab (pv 2)) ?_ Zaz
 fail "~X b"
 refine Zdu (Zqh (by rfl)) ?_ T.n_max Zzw ?_
 fail "~a b o b s c a a c a a d av g a f N t b n x b n x b"
 refine Zal Zat Zag ?_
 fail "~n x c a a a n x d"
 refine Zc2 (i := 6) (cn := ["script", "kinds"]) ?_ (Zck (x := "k") (cn := ["script", "kinds"]) (ci := [0, 4]) (by decide +kernel)) ?_ ?_ ?_ ?_ ?_ ?_
 fail "~a Q a b 8 c a p"
 exact Zej
 fail "~p"
 refine Zao (Zps T) (hr.mono (by decide)) ?_ ?_
 fail "~a b"
 refine Zao (ok_law_at T) (hr.mono (by decide)) ?_ ?_
 fail "~a b j b"
 exact Zal Zat Zag (Zab (pv 0))
 fail "~c a a b k a b m c a b o c a a a g a a d i"
 refine Zan Zh4 ?_ Zag (Zar _)
 fail "~n x e"
 refine Zc2 (i := 6) (cn := []) ?_ (Zck (x := "row") (cn := []) (ci := []) (by decide +kernel)) ?_ ?_ ?_ ?_ ?_ ?_
 fail "~a"
 exact Zdp (Zab (pv 6))
 fail "~p Y"
 refine Zan (Zdd hr.units) (Zab (pv 0)) ?_ (Zar _)
 fail "~9 p h g a a e l w b D b U a b W c a c a a"
theorem Zg6 (T : Top K mg) : Fn P w K mg base 1 "_law_right" ["literal", "play"] Zdb := by
 refine (fun h => h : _ → Fn P w K mg base 1 "_law_right" ["literal", "play"] (Za0 2 2 Zc5)) (Za5 (N := ["literal", "play"]) (k := 0) T.t_law_right Zlb (by fail "~U2") ?_)
 intro f cdv A outer s H E hr
 unfold Zc5
 fail "~e l"
 refine Zei (Zg9 hr.units) ?_ ?_ (Zar _)
 fail "~ac 2 V a b h c a"
 exact Zei Zh4 (Zab (pv 0)) Zag (Zar _)
theorem Zl9 (T : Top K mg) : Fn P w K mg base 1 "_law_plays" ["many"] Zfr := by
 refine (fun h => h : _ → Fn P w K mg base 1 "_law_plays" ["many"] (Za0 1 5 Zc1)) (Za5 (N := ["many", "found", "turn", "more_plays", "one"]) (k := 0) T.t_law_plays Zhg (by fail "~U1") ?_)
 intro f cdv A outer s H E hr
 unfold Zc1
 have nd := Zhg.nd
 fail "~d"
 refine Za9 (i := 1) ?_ ?_ ?_ ?_
 fail "~g a f t b 9 c a d z a Q a b h c a ay g a f d L g a f A d z a aA ae g a f e L g a f at t b"
 refine Zal Zat (Zab (pv 4)) ?_
 fail "~w b 1 c a b"
 refine Zal Zat (Zab (pv 4)) ?_
 fail "~w b 1 c a c a a e"
 refine Za9 (i := 1) ?_ ?_ ?_ (Zab (pv 3))
 fail "~g a f e"
 exact Zey (Zab (pv 1))
theorem Zmx (T : Top K mg) : Fn P w K mg base 2 "_law_lost" ["rows", "play"] Zg1 := by
 refine (fun h => h : _ → Fn P w K mg base 2 "_law_lost" ["rows", "play"] (Za0 2 3 Zdx)) (Za5 (N := ["rows", "play", "row"]) (k := 1) T.t_law_lost Zh5 (by fail "~U2") ?_)
 intro f cdv A outer s H E hr
 unfold Zdx
 fail "~d z a aP ay"
 exact Zh5.nd
 fail "~a f e i"
 refine Zan (Zg9 hr.units) ?_ ?_ (Zar _)
 refine Zfg (cn := ["play"]) ?_ (Zck (x := "literal") (cn := ["play"]) (ci := [1]) (by decide +kernel)) ?_ ?_ ?_
 fail "~a"
 exact Zdp (Zab (pv 2))
 fail "~p Y r"
 refine Zao (Zg6 T) (hr.mono (by decide)) ?_ ?_
 fail "~a b h b j c a a p h A e B e B"
theorem ok_law_whole (T : Top K mg) : Fn P w K mg base 1 "_law_whole" ["thing", "bound"] Zbn := by
 refine (fun h => h : _ → Fn P w K mg base 1 "_law_whole" ["thing", "bound"] (Za0 2 2 Zbw)) (Za5 (N := ["thing", "bound"]) (k := 0) T.t_law_whole Zk0 (by fail "~U2") ?_)
 intro f cdv A outer s H E hr
 unfold Zbw
 fail "~e l Z H a b h b"
 refine Zg8 ?_ T.n_int Zmo
 fail "~a c a a Z"
 refine Zry ?_
 fail "~H a b h b ax a c a a aa"
 refine Zir Zjw Zjy Zag (Zab (pv 0)) (Zab (pv 1)) ?_
 fail "~E"
theorem Znt (T : Top K mg) : Fn P w K mg base 1 "_law_less" ["kinds", "row"] Zgq := by
 refine (fun h => h : _ → Fn P w K mg base 1 "_law_less" ["kinds", "row"] (Za0 2 6 Zd4)) (Za5 (N := ["kinds", "row", "found", "k", "literal", "behind"]) (k := 0) T.t_law_less Zia (by fail "~U2") ?_)
 intro f cdv A outer s H E hr
 unfold Zd4
 have nd := Zia.nd
 fail "~d P g a f A d z a"
 refine Zoi ?_ T.n_enumerate ?_
 fail "~a b j c a"
 refine Zij ?_ ?_
 fail "~a aD 7 g a f aB ae g a f d"
 refine Zc2 (i := 5) (cn := ["kinds"]) ?_ (Zck (x := "one") (cn := ["kinds"]) (ci := [0]) (by decide +kernel)) ?_ ?_ ?_ ?_ ?_ ?_
 fail "~a 4"
 refine Zap (Zab (pv 1)) ?_ Zaz
 exact Zcu (Zab (pv 3))
 fail "~p Y"
 refine Zan (Zdd hr.units) ?_ Znn (Zar _)
 fail "~ac 2 V a b h c a p h g a a e i"
 refine Zan (Zdd hr.units) (Zab (pv 5)) ?_ (Zar _)
 fail "~A e K ab b D c a e l U a b m c a"
theorem Zgb (T : Top K mg) : Fn P w K mg base 1 "_law_joined" ["row", "other", "name"] Zdj := by
 refine (fun h => h : _ → Fn P w K mg base 1 "_law_joined" ["row", "other", "name"] (Za0 3 5 Zcm)) (Za5 (N := ["row", "other", "name", "found", "one"]) (k := 0) T.t_law_joined Zee (by fail "~U3") ?_)
 intro f cdv A outer s H E hr
 unfold Zcm
 fail "~d i u C"
 refine Zan (Zip hr.units) (Zab (pv 2)) (Zab (pv 0)) ?_
 fail "~E G"
 refine Zan (Zip hr.units) ?_ (Zab (pv 1)) ?_
 exact Ziv Zfp (Zab (pv 2))
 fail "~E e M d"
 refine Za9 (i := 3) ?_ ?_ ?_ Zsl
 exact Zee.nd
 fail "~a f d z a 4"
 exact Zal Zat (Zab (pv 0)) (Zab (pv 1))
 fail "~ae"
 exact Zee.nd
 fail "~a f e i"
 refine Zan (Zdd hr.units) ?_ (Zab (pv 2)) (Zar _)
 fail "~V a b D c a d i"
 refine Zan iinf ?_ (Zab (pv 3)) ?_
 exact Ziv Zfp (Zab (pv 4))
 fail "~E e M e"
 refine Zrg Zlv ?_
 exact Zyn (Zab (pv 3)) (Zab (pv 4)) isetf
 fail "~e l U a b"
 refine Zpo ?_ ?_ T.n_sorted ?_ T.n_abs ?_
 fail "~a a a b s c a c a"
theorem Zjc (T : Top K mg) : Fn P w K mg base 1 "_law_is_term" ["claim", "thing"] Zcv := by
 refine (fun h => h : _ → Fn P w K mg base 1 "_law_is_term" ["claim", "thing"] (Za0 2 5 Zb6)) (Za5 (N := ["claim", "thing", "last", "literal", "row"]) (k := 0) T.t_law_is_term Zfk (by fail "~U2") ?_)
 intro f cdv A outer s H E hr
 unfold Zb6
 have nd := Zfk.nd
 fail "~d i y r H a b j b au a c a a e B d"
 refine Za9 (i := 2) ?_ ?_ ?_ Zag
 fail "~g a f d z a aA 7 g a f d i u C y r H a b s b"
 refine Zg8 ?_ T.n_int Zmo
 fail "~a c a a G r H a b s b ax a c a a e B d i y"
 refine Zsj Zjy Zjw (Zab (pv 2)) ?_ ?_ ?_
 fail "~V a b s c a k a b I c a E e B e P g a f V a b s c a d z a 4 I ae g a f e i"
 refine Zan (Zg9 hr.units) ?_ ?_ (Zar _)
 refine Zfg (cn := ["thing"]) ?_ (Zck (x := "literal") (cn := ["thing"]) (ci := [1]) (by decide +kernel)) ?_ ?_ ?_
 fail "~a"
 exact Zdp (Zab (pv 4))
 fail "~p Y"
 refine Zan (Zjv hr.units) (Zab (pv 0)) (Zab (pv 1)) ?_
 fail "~E p h A e B e B"
theorem Zio (T : Top K mg) : Fn P w K mg base 2 "_law_step" ["claim", "made", "step"] Zfa := by
 refine (fun h => h : _ → Fn P w K mg base 2 "_law_step" ["claim", "made", "step"] (Za0 3 4 Zdy)) (Za5 (N := ["claim", "made", "step", "names"]) (k := 1) T.t_law_step Zin (by fail "~U3") ?_)
 intro f cdv A outer s H E hr
 unfold Zdy
 fail "~d i u C y r H a b m b au a c a a C J k a b m c a G y r H a b x b"
 refine Zg8 ?_ T.n_str Yae
 fail "~a c a a e M d i u T ap x T J k a b m c a 0 r"
 refine Zao (ok_law_whole T) (hr.mono (by decide)) ?_ ?_
 fail "~a b x b k a b j c a c a a e l"
 refine Zao (Znt T) (hr.mono (by decide)) ?_ ?_
 fail "~a b I b ac x c a a d i u T ap x 0 J k a b m c a d"
 refine Zc2 (i := 3) (cn := ["claim"]) ?_ (Zck (x := "k") (cn := ["claim"]) (ci := [0]) (by decide +kernel)) ?_ ?_ ?_ ?_ ?_ ?_
 fail "~a Q a b k a b I c a c a p Y"
 refine Zan (Zdd hr.units) ?_ Znn (Zar _)
 refine Zbl ixf ?_ (Zab (pv 0)) (fun _ _ => rfl)
 fail "~R p"
 exact Zal Zat (Zab (pv 0)) Zag
 exact Zin.nd
 fail "~a a d i"
 refine Zan (Zjv hr.units) Zlv ?_ ?_
 refine Zfg (cn := ["made"]) ?_ (Zck (x := "number") (cn := ["made"]) (ci := [1]) (by decide +kernel)) ?_ ?_ ?_
 fail "~a 4"
 refine Zap (Zab (pv 2)) ?_ ?_
 fail "~X X p"
 exact Zej
 fail "~p"
 refine Zao (ok_law_whole T) (hr.mono (by decide)) ?_ ?_
 fail "~a b h b k a b j c a c a a E e M d i u C y r"
 refine Zao (ok_law_whole T) (hr.mono (by decide)) ?_ ?_
 fail "~a b x b af k a b I c a c a a G"
 refine Zan (Zip hr.units) ?_ (Zab (pv 3)) ?_
 fail "~x E e M e l"
 refine Zao (Zgb T) (hr.mono (by decide)) ?_ ?_
 fail "~a b ac x b ac x b x c a a a d i u T ap x T J k a b m c a 0 r"
 refine Zao (Zjc T) (hr.mono (by decide)) ?_ ?_
 fail "~a b h b x c a a e l x e M"
theorem ok_law_made (T : Top K mg) : Fn P w K mg base 3 "_law_made" ["claim", "steps"] Zdv := by
 refine (fun h => h : _ → Fn P w K mg base 3 "_law_made" ["claim", "steps"] (Za0 2 5 Zd1)) (Za5 (N := ["claim", "steps", "made", "step", "found"]) (k := 2) T.t_law_made Zh2 (by fail "~U2") ?_)
 intro f cdv A outer s H E hr
 unfold Zd1
 have nd := Zh2.nd
 fail "~d P g a f A d z a aA 7 g a f d O g a f"
 refine Zao (Zio T) (hr.mono (by decide)) ?_ ?_
 fail "~a b h b m b s c a a a d i"
 exact Zan Zwv (Zab (pv 4)) Zcy (Zar _)
 fail "~e aQ e K ab b D c a e aQ"
theorem Zm7 (T : Top K mg) : Fn P w K mg base 2 "_law_term" ["claim", "play", "some"] Zg4 := by
 refine (fun h => h : _ → Fn P w K mg base 2 "_law_term" ["claim", "play", "some"] (Za0 3 9 Zd7)) (Za5 (N := ["claim", "play", "some", "found", "row", "here", "k", "truth", "literal"]) (k := 1) T.t_law_term Zh6 (by fail "~U3") ?_)
 intro f cdv A outer s H E hr
 unfold Zd7
 have nd := Zh6.nd
 fail "~d L g a f A d z a 4 I ae g a f d"
 refine Zc2 (i := 5) (cn := ["play"]) ?_ (Zck (x := "literal") (cn := ["play"]) (ci := [1]) (by decide +kernel)) ?_ ?_ ?_ ?_ ?_ ?_
 fail "~a"
 exact Zdp (Zab (pv 4))
 fail "~p Y r"
 refine Zao (Zg6 T) (hr.mono (by decide)) ?_ ?_
 fail "~a b h b j c a a p h g a a e i"
 refine Zan (Zg9 hr.units) ?_ ?_ (Zar _)
 refine Zfg (cn := ["found"]) ?_ (Zck (x := "literal") (cn := ["found"]) (ci := [3]) (by decide +kernel)) ?_ ?_ ?_
 fail "~a"
 exact Zdp (Zab (pv 5))
 fail "~p Y"
 refine Zan (Zjv hr.units) (Zab (pv 0)) (Zab (pv 1)) ?_
 fail "~E p h A e K"
 refine Zj4 Um Uo Zcw (Zab (pv 3)) ?_
 fail "~b"
 refine Zbl ixf (Zab (pv 5)) ?_ (fun _ _ => rfl)
 fail "~S x k a b 8 c a c a d z a"
 refine Zoi ?_ T.n_enumerate ?_
 fail "~a b j c a"
 refine Zij ?_ ?_
 fail "~a aD"
 refine Zcj (i := 6) ?_ ?_ ?_
 fail "~g a f aB"
 refine Zcj (i := 7) ?_ ?_ ?_
 fail "~g a f d aw g a f N t b 2"
 exact Zal Zds Zag (Zab (pv 6))
 fail "~b"
 exact Zal Zat (Zab (pv 6)) Zag
 fail "~c a a"
 refine Ze6 Zmg ?_ T.n_int Zmo ?_
 fail "~a b ag c a e i u T J n"
 refine Zal Ze9 ?_ ?_
 fail "~x"
 exact Zal Zat (Zab (pv 6)) Zag
 fail "~0"
 refine Zan (Zip hr.units) (Zab (pv 8)) (Zab (pv 3)) ?_
 fail "~E e K"
 refine Zj4 Um Uo Zcw (Zab (pv 3)) ?_
 fail "~b ah c a e l U a b"
 refine Zlu ?_ T.n_sorted ?_ T.n_abs ?_
 fail "~a a b s c a c a"
theorem Zgz (T : Top K mg) : Fn P w K mg base 3 "_law_drawn_step" ["claim", "made", "plays", "some"] Zcr := by
 refine (fun h => h : _ → Fn P w K mg base 3 "_law_drawn_step" ["claim", "made", "plays", "some"] (Za0 4 9 Zbi)) (Za5 (N := ["claim", "made", "plays", "some", "names", "turn", "i", "j", "name"]) (k := 2) T.t_law_drawn_step Zd0 (by fail "~U4") ?_)
 intro f cdv A outer s H E hr
 unfold Zbi
 have nd := Zd0.nd
 fail "~d i u T J n q 0"
 refine Zan (Zdd hr.units) (Zab (pv 1)) ?_ (Zar _)
 fail "~A e l w b v b S q k a b j c a c a a d i u T"
 refine Zan Zjy ?_ Zag (Zar _)
 fail "~n q 0"
 refine Zan (Zdd hr.units) (Zab (pv 1)) ?_ (Zar _)
 fail "~A d"
 refine Zc2 (i := 4) (cn := ["claim"]) ?_ (Zck (x := "k") (cn := ["claim"]) (ci := [0]) (by decide +kernel)) ?_ ?_ ?_ ?_ ?_ ?_
 fail "~a Q a b k a b I c a c a p Y"
 refine Zan (Zdd hr.units) ?_ Znn (Zar _)
 refine Zbl ixf ?_ (Zab (pv 0)) (fun _ _ => rfl)
 fail "~R p"
 exact Zal Zat (Zab (pv 0)) Zag
 fail "~g a a e z a Q a b k a b j c a c a ad g a f d"
 refine Za9 (i := 6) ?_ ?_ ?_ ?_
 fail "~g a f S"
 refine Zal Zat ?_ (Zab (pv 5))
 fail "~q k a b j c a d 6 g a f S F q"
 exact Zal Zfw Zag (Zab (pv 5))
 fail "~k a b j c a e z a"
 exact Zdp (Zab (pv 4))
 refine Zcj (i := 8) ?_ ?_ ?_
 fail "~g a f e i"
 refine Zan Zqy ?_ Zcy (Zar _)
 refine Zao (Zgb T) (hr.mono (by decide)) ?_ ?_
 fail "~a b"
 exact Zbl ixf (Zab (pv 1)) (Zab (pv 6)) (fun _ _ => rfl)
 fail "~b"
 exact Zbl ixf (Zab (pv 1)) (Zab (pv 7)) (fun _ _ => rfl)
 fail "~b ah c a a a e l w b v b W b ag b ah c a a a a d i"
 refine Zan (Zg9 hr.units) (Zab (pv 2)) ?_ (Zar _)
 fail "~A e M e l w b v b"
 refine Zao (Zm7 T) (hr.mono (by decide)) ?_ ?_
 fail "~a b h b ao S q k a b m c a b"
 refine Zap (Zab (pv 3)) ?_ Zaz
 fail "~X c a a a c a a"
theorem Zgd (T : Top K mg) : Fn P w K mg base 4 "_law_drawn_steps" ["claim", "script", "at", "many"] Zch := by
 refine (fun h => h : _ → Fn P w K mg base 4 "_law_drawn_steps" ["claim", "script", "at", "many"] (Za0 4 10 Za8)) (Za5 (N := ["claim", "script", "at", "many", "steps", "made", "plays", "k", "some", "step"]) (k := 3) T.t_law_drawn_steps Zdl (by fail "~U4") ?_)
 intro f cdv A outer s H E hr
 unfold Za8
 have nd := Zdl.nd
 fail "~d O g a f A d av g a f A d"
 refine Zc2 (i := 6) (cn := ["claim"]) ?_ (Zck (x := "play") (cn := ["claim"]) (ci := [0]) (by decide +kernel)) ?_ ?_ ?_ ?_ ?_ ?_
 fail "~a 4"
 refine Zao (Zl9 T) (hr.mono (by decide)) ?_ ?_
 fail "~a b k a b I c a c a p Y y r"
 refine Zao (Zmx T) (hr.mono (by decide)) ?_ ?_
 fail "~a b R b h c a a p h g a a d z a Q a b s c a"
 refine Zcj (i := 7) ?_ ?_ ?_
 fail "~g a f d aw g a f"
 refine Zap ?_ ?_ Zaz
 refine Zao (ok_law_digits T) (hr.mono (by decide)) ?_ ?_
 fail "~a b"
 refine Zao (ok_law_at T) (hr.mono (by decide)) ?_ ?_
 fail "~a b j b"
 exact Zal Zat (Zab (pv 2)) (Zab (pv 7))
 fail "~c a a b o c a a X d"
 refine Za9 (i := 9) ?_ ?_ ?_ ?_
 fail "~g a f"
 refine Zao (Zgz T) (hr.mono (by decide)) ?_ ?_
 fail "~a b h b 8 b W b ah c a a a a e i"
 exact Zan Zqy (Zab (pv 9)) Zcy (Zar _)
 fail "~d K aF b aE c a e K"
 refine Zj4 Um Uo Zcw (Zab (pv 5)) ?_
 fail "~b"
 refine Zao (Zio T) (hr.mono (by decide)) ?_ ?_
 fail "~a b h b 8 b aE c a a a c a e"
 exact Zey (Zab (pv 4))
theorem Zhm (T : Top K mg) : Fn P w K mg base 1 "_law_many_rows" ["claim", "one"] Zda := by
 refine (fun h => h : _ → Fn P w K mg base 1 "_law_many_rows" ["claim", "one"] (Za0 2 4 Zbm)) (Za5 (N := ["claim", "one", "kinds", "rows"]) (k := 0) T.t_law_many_rows Zcp (by fail "~U2") ?_)
 intro f cdv A outer s H E hr
 unfold Zbm
 fail "~d"
 refine Zrg (Zab (pv 0)) ?_
 refine Zij ?_ ?_
 fail "~a aD ay"
 exact Zcp.nd
 fail "~a f aB 7"
 exact Zcp.nd
 fail "~a f d i u C"
 refine Zan Zh4 ?_ Zag (Zar _)
 exact Zal Zdt (Zab (pv 1)) Zag
 fail "~G"
 refine Zan Zh4 ?_ Zag (Zar _)
 fail "~k a b m c a e"
 exact Zey (Zab (pv 0))
 fail "~e l w b m b F"
 refine Zal Zfw (Zab (pv 3)) ?_
 refine Zal Zat Zag ?_
 fail "~n"
 exact Zal Ze9 (Zab (pv 1)) Zag
 refine Zsf (f := eUn Zme (eC (.int 1))) (Zab (pv 3)) ?_ (fun _ _ => rfl)
 fail "~3 c a a"
theorem Zdk (T : Top K mg) : Fn P w K mg base 1 "_law_spoilt_step" ["claim", "made", "step", "some"] Za7 := by
 refine (fun h => h : _ → Fn P w K mg base 1 "_law_spoilt_step" ["claim", "made", "step", "some"] (Za0 4 13 Za6)) (Za5 (N := ["claim", "made", "step", "some", "far", "names", "many", "row", "at", "odd", "twice", "wrong", "name"]) (k := 0) T.t_law_spoilt_step Zdh (by fail "~U4") ?_)
 intro f cdv A outer s H E hr
 unfold Za6
 have nd := Zdh.nd
 fail "~d O g a f N t b k a b j c a b 3 b 1 b"
 exact Zcy
 fail "~b v b"
 exact Zal Zik Zag Zag
 fail "~b af k a b j c a c a a a a a a a n q d av g a f k a b I c a d"
 refine Za9 (i := 6) ?_ ?_ ?_ ?_
 fail "~g a f"
 refine Zdu (Zqh (by rfl)) ?_ T.n_max Zzw ?_
 fail "~a b o b k a b j c a c a a d i J n q d"
 refine Za9 (i := 11) ?_ ?_ ?_ ?_
 fail "~g a f t b"
 exact Zcy
 fail "~b 5 a b m c a b"
 refine Zal Zat (Zab (pv 2)) ?_
 fail "~w b o c a b"
 refine Zap (Zab (pv 2)) Zaz ?_
 fail "~aj 3 b 9 b w b v b o c a a b o b w b m c a b w b v c a b w b"
 exact Zcy
 fail "~b o c a a c a a a a a a a a a a e l N"
 refine Zal Zat (Zab (pv 11)) ?_
 fail "~t b F w b t b x c a c a"
 refine Zap (Zab (pv 2)) ?_ Zaz
 fail "~X c a n q d i J n q e l w b v b D c a a d i J n q e l N t b w b v b D b o b o c a a a a b w b v b o b D b o c a a a a b w b v b o b o b D c a a a a c a a a n q d i J n q d"
 refine Za9 (i := 12) ?_ ?_ ?_ ?_
 fail "~g a f N t b o b as b 3 b"
 refine Zal Zat Zag ?_
 fail "~S q as c a a a a n"
 refine Zal Ze9 ?_ Zag
 fail "~q e l w b v b"
 refine Zal Zdt ?_ (Zab (pv 6))
 fail "~q b"
 refine Zal Zdt ?_ (Zab (pv 6))
 fail "~q b"
 exact (Zab (pv 12))
 fail "~c a a a a d 6 g a f U a b"
 refine Zfg (cn := ["some"]) ?_ (Zck (x := "k") (cn := ["some"]) (ci := [3]) (by decide +kernel)) ?_ ?_ ?_
 fail "~a Q a b 8 c a p"
 exact Zej
 fail "~p N t b"
 exact Zal Zat (Zab (pv 0)) Zag
 fail "~b 2"
 exact Zal Zds Zag (Zab (pv 0))
 fail "~c a a n ac"
 exact Zal Zat Zag (Zab (pv 0))
 fail "~c a d aw g a f S q as d"
 refine Za9 (i := 9) ?_ ?_ ?_ ?_
 fail "~g a f N t b o b 2"
 exact Zal Zds Zag (Zab (pv 5))
 fail "~b as b 1 b 1 b"
 exact Zcy
 fail "~b v b w b o c a b t b o c a b"
 exact Zal Zik Zag Zag
 fail "~c a a a a a a a a a a n q d i J n q e l w b v b F F"
 refine Zap (Zab (pv 7)) Zaz ?_
 fail "~az w b aE c a aK aj"
 refine Zal Zat (Zab (pv 8)) ?_
 fail "~n q c a a d"
 refine Za9 (i := 10) ?_ ?_ ?_ ?_
 fail "~g a f F F"
 refine Zap (Zab (pv 7)) Zaz ?_
 fail "~az U a b"
 refine Zfg (cn := []) ?_ (Zck (x := "one") (cn := []) (ci := []) (by decide +kernel)) ?_ ?_ ?_
 fail "~a 4"
 refine Zap (Zab (pv 7)) ?_ ?_
 fail "~aj"
 refine Zdu (Zqh (by rfl)) ?_ T.n_max Zzw ?_
 fail "~a b o b"
 exact Zal Zds (Zab (pv 8)) Zag
 fail "~c a a az p"
 exact Zej
 fail "~p"
 exact Ziv Zfp (Zab (pv 0))
 fail "~c a aK az d"
 refine Za9 (i := 11) ?_ ?_ ?_ ?_
 fail "~g a f t b F"
 refine Zap (Zab (pv 7)) Zaz ?_
 fail "~az aK aj"
 exact Zal Zat (Zab (pv 8)) Zag
 fail "~b"
 refine Zsf (f := eUn Zme (eC (.int 1))) (Zab (pv 7)) ?_ (fun _ _ => rfl)
 fail "~3 b"
 refine Zal Zat (Zab (pv 7)) ?_
 fail "~aK aj 3 b 5 a b ag c a b"
 exact (Zab (pv 10))
 fail "~b"
 exact Zcy
 fail "~b 9 c a a a a a a a e l w b v b"
 refine Zbl ixf (Zab (pv 11)) ?_ (fun _ _ => rfl)
 fail "~n q c a a"
theorem Zi9 (T : Top K mg) : Fn P w K mg base 7 "_law_refused" ["claim", "steps"] Zea := by
 refine (fun h => h : _ → Fn P w K mg base 7 "_law_refused" ["claim", "steps"] (Za0 2 4 Zb5)) (Za5 (N := ["claim", "steps", "told", "e"]) (k := 6) T.t_law_refused Zfj (by fail "~U2") ?_)
 intro f cdv A outer s H E hr
 unfold Zb5
 have nd := Zfj.nd
 obtain ⟨C, cV, hE, hmc, hex⟩ := T.h_NoStep_NoStep
 fail "~d"
 refine Za9 (i := 2) ?_ ?_ ?_ Zcy
 fail "~g a f d"
 refine Zod (k := 6) (iE := 3) (C := C) (cV := cV) (xn := "NoStep") (av := some "step") (ps := ["claim", "steps"]) ?_ ?_ ?_ ?_ ?_ ?_ ?_ ?_ ?_ ?_ ?_
 fail "~e K"
 refine Zao (ok_terms_of T) (hr.mono (by decide)) ?_ ?_
 fail "~a b h b j c a a"
 exact (Zha T)
 exact hE
 fail "~aC b h b j c a a"
 exact hmc
 exact hex
 fail "~g a a"
 intro i ex oe c1 c2
 refine Zib ?_ Zoj
 refine Zns (j := 2) ?_ ?_ ?_ ?_ ?_
 fail "~g a"
 decide
 fail "~f"
 refine Zp8 (iE := 3) (C := C) (xn := "NoStep") (k := 1) ?_ ?_ ?_ ?_ ?_ ?_ ?_
 exact (okI_NoStep T)
 exact hE
 exact c1
 exact c2
 fail "~a a f e aQ"
theorem Zl2 (T : Top K mg) : Fn P w K mg base 7 "_law_plain" ["claim", "steps"] Zfn := by
 refine (fun h => h : _ → Fn P w K mg base 7 "_law_plain" ["claim", "steps"] (Za0 2 4 Zc3)) (Za5 (N := ["claim", "steps", "kinds", "e"]) (k := 6) T.t_law_plain Zhc (by fail "~U2") ?_)
 intro f cdv A outer s H E hr
 unfold Zc3
 have nd := Zhc.nd
 obtain ⟨C, cV, hE, hmc, hex⟩ := T.h_NoStep_ClaimError
 obtain ⟨i0_0, i0_1, i0_2, hJ0, mi0_0, mi0_1, mi0_2⟩ := T.i_NoStep_0
 obtain ⟨i1_0, i1_1, i1_2, i1_3, hJ1, mi1_0, mi1_1, mi1_2, mi1_3⟩ := T.i_NoStep_1
 fail "~d P g a f A d"
 refine Zod (k := 6) (iE := 3) (C := C) (cV := cV) (xn := "NoStep") (av := some "step") (ps := ["claim", "steps"]) ?_ ?_ ?_ ?_ ?_ ?_ ?_ ?_ ?_ ?_ ?_
 fail "~e K"
 refine Zao (ok_terms_of T) (hr.mono (by decide)) ?_ ?_
 fail "~a b h b j c a a"
 exact (Zha T)
 exact hE
 fail "~aC b h b j c a a"
 exact hmc
 exact hex
 fail "~g a a"
 intro i ex oe c1 c2
 refine Zib ?_ ?_
 refine Zns (j := 2) ?_ ?_ ?_ ?_ ?_
 fail "~g a"
 decide
 fail "~f"
 refine Zrx ?_
 refine Zhu ?_ ?_
 refine Zqe (f := "step") (iE := 3) (C := C) (xn := "NoStep") (k := 1) ?_ ?_ ?_ ?_ ?_ ?_ ?_
 exact (okI_NoStep T)
 exact hE
 exact T.o_NoStep
 exact c1
 exact T.n_isinstance
 fail "~a f"
 refine Zhu ?_ Zq0
 refine Zs1 (f := "step") (cs := [i0_0, i0_1, i0_2]) (iE := 3) (C := C) (xn := "NoStep") (k := 1) ?_ ?_ ?_ ?_ ?_ ?_ ?_ ?_
 exact (okI_NoStep T)
 exact hE
 exact hJ0
 exact c1
 exact T.n_isinstance
 exact T.n_ValueError
 fail "~a f"
 refine Zib ?_ Zoj
 refine Zns (j := 2) ?_ ?_ ?_ ?_ ?_
 fail "~g a"
 decide
 fail "~f"
 refine Ya5 Zat ?_ ?_
 exact Ybr (Zab (pv 2))
 refine Zrx ?_
 refine Zhu ?_ ?_
 refine Zms (f := "step") (cs := [i1_0, i1_1, i1_2, i1_3]) (iE := 3) (C := C) (xn := "NoStep") (k := 1) ?_ ?_ ?_ ?_ ?_ ?_ ?_ ?_ (Zig (by rfl) (by exact mi1_0) (Zig (by rfl) (by exact mi1_1) (Zig (by rfl) (by exact mi1_2) (Zig (by rfl) (by exact mi1_3) Zrk))))
 exact (okI_NoStep T)
 exact hE
 exact hJ1
 exact c1
 exact (by decide : 4 ≤ 1000)
 exact T.n_isinstance
 fail "~a f"
 refine Zhu ?_ Zq0
 refine Zms (f := "step") (cs := [i0_0, i0_1, i0_2]) (iE := 3) (C := C) (xn := "NoStep") (k := 1) ?_ ?_ ?_ ?_ ?_ ?_ ?_ ?_ (Zig (by rfl) (by exact mi0_0) (Zig (by rfl) (by exact mi0_1) (Zig (by rfl) (by exact mi0_2) Zrk)))
 exact (okI_NoStep T)
 exact hE
 exact hJ0
 exact c1
 exact (by decide : 3 ≤ 1000)
 exact T.n_isinstance
 fail "~a f e l"
 refine Zei (Zg9 hr.units) (Zab (pv 2)) ?_ (Zar _)
 fail "~t b 1 b 1 b 1 b 1 c a a a a"
theorem Zga (T : Top K mg) : Fn P w K mg base 1 "_law_is_due" ["found", "due"] Zdg := by
 refine (fun h => h : _ → Fn P w K mg base 1 "_law_is_due" ["found", "due"] (Za0 2 3 Zcl)) (Za5 (N := ["found", "due", "row"]) (k := 0) T.t_law_is_due Zf7 (by fail "~U2") ?_)
 intro f cdv A outer s H E hr
 unfold Zcl
 fail "~d i u C y r H a b h b"
 refine Zg8 ?_ T.n_list Zna
 fail "~a c a a G"
 exact Zan (Zdd hr.units) (Zab (pv 0)) (Zab (pv 1)) (Zar _)
 fail "~e B d z a aP ay"
 exact Zf7.nd
 fail "~a f e i u C y r H a b m b au a c a a G"
 refine Zan (Zjv hr.units) Zlv ?_ ?_
 refine Zfg (cn := []) ?_ (Zck (x := "one") (cn := []) (ci := []) (by decide +kernel)) ?_ ?_ ?_
 fail "~a"
 exact Zdp (Zab (pv 2))
 fail "~p"
 exact Zej
 fail "~p H a b h b ax a c a a E e B e B"
theorem Zgk (T : Top K mg) : Fn P w K mg base 8 "_law_wrong_right" ["claim", "wrong"] Zcg := by
 refine (fun h => h : _ → Fn P w K mg base 8 "_law_wrong_right" ["claim", "wrong"] (Za0 2 8 Zba)) (Za5 (N := ["claim", "wrong", "made", "stays", "said", "due", "handed", "found"]) (k := 7) T.t_law_wrong_right Zdn (by fail "~U2") ?_)
 intro f cdv A outer s H E hr
 unfold Zba
 have nd := Zdn.nd
 fail "~d P g a f"
 refine Zao (ok_law_made T) (hr.mono (by decide)) ?_ ?_
 fail "~a b h b j c a a d L g a f"
 refine Zdu (Zpl hr) ?_ T.n_repr Zyd ?_
 fail "~a b j c a d O g a f"
 refine Zao (Zhk T) (hr.mono (by decide)) ?_ ?_
 fail "~a b h b 5 a b j c a c a a d av g a f Z"
 refine Zei (Zg9 hr.units) ?_ ?_ (Zar _)
 refine Zap (Zab (pv 2)) ?_ Zaz
 fail "~aj 3 t b 9 c a aa"
 refine Zei (Zg9 hr.units) ?_ ?_ (Zar _)
 fail "~k a b m c a k a b j c a d i u C"
 refine Zan (Zdd hr.units) ?_ (Zab (pv 3)) (Zar _)
 refine Zdu (Zpl hr) ?_ T.n_repr Zyd ?_
 fail "~a b j c a C y r H a b D b ax a c a a G"
 exact Zan (Zdd hr.units) (Zab (pv 4)) (Zab (pv 5)) (Zar _)
 fail "~e B d"
 refine Za9 (i := 6) ?_ ?_ ?_ ?_
 fail "~g a f 5 a b j c a d i"
 refine Zan (Zg9 hr.units) ?_ ?_ (Zar _)
 fail "~k a b m c a k a b j c a e l Z"
 refine Zao (Zga T) (hr.mono (by decide)) ?_ ?_
 fail "~a b"
 refine Zao (ok_terms_of T) (hr.mono (by decide)) ?_ ?_
 fail "~a b h b W c a a b m c a a aa"
 refine Zei (Zg9 hr.units) ?_ (Zab (pv 3)) (Zar _)
 refine Zdu (Zpl hr) ?_ T.n_repr Zyd ?_
 fail "~a b W c a d 6 g a f"
 refine Zao (Zi9 T) (hr.mono (by decide)) ?_ ?_
 fail "~a b h b W c a a d i u C y r"
 refine Zao (ok_law_whole T) (hr.mono (by decide)) ?_ ?_
 fail "~a b ag b k a b j c a c a a G"
 refine Zan (Zdd hr.units) (Zab (pv 7)) ?_ (Zar _)
 fail "~k a b m c a e B d i u C"
 refine Zan (Zdd hr.units) ?_ (Zab (pv 3)) (Zar _)
 refine Zdu (Zpl hr) ?_ T.n_repr Zyd ?_
 fail "~a b W c a G"
 refine Zan (Zdd hr.units) ?_ (Zab (pv 3)) (Zar _)
 refine Zdu (Zpl hr) ?_ T.n_repr Zyd ?_
 fail "~a b j c a e B e l"
 refine Zao (Zl2 T) (hr.mono (by decide)) ?_ ?_
 fail "~a b h b 5 a b j c a c a a"
theorem Zgr (T : Top K mg) : Fn P w K mg base 7 "_law_good_right" ["claim", "steps"] Zcs := by
 refine (fun h => h : _ → Fn P w K mg base 7 "_law_good_right" ["claim", "steps"] (Za0 2 6 Zbf)) (Za5 (N := ["claim", "steps", "due", "handed", "turn", "found"]) (k := 6) T.t_law_good_right Zd5 (by fail "~U2") ?_)
 intro f cdv A outer s H E hr
 unfold Zbf
 have nd := Zd5.nd
 fail "~d P g a f"
 refine Zao (ok_law_made T) (hr.mono (by decide)) ?_ ?_
 fail "~a b h b j c a a d L g a f 5 a b j c a d z a Q a b o c a ae g a f d av g a f"
 refine Zao (ok_terms_of T) (hr.mono (by decide)) ?_ ?_
 fail "~a b h b s c a a d i u C y r"
 refine Zao (Zga T) (hr.mono (by decide)) ?_ ?_
 fail "~a b 8 b m c a a G"
 exact Zan (Zdd hr.units) (Zab (pv 3)) (Zab (pv 1)) (Zar _)
 fail "~e B e K"
 refine Zj4 Um Uo Zcw (Zab (pv 5)) ?_
 fail "~b 9 c a e B"
theorem Yay (T : Top K mg) : Fn P w K mg base 9 "law" ["script"] Zo5 := by
 refine (fun h => h : _ → Fn P w K mg base 9 "law" ["script"] (Za0 1 11 Zrv)) (Za5 (N := ["script", "some", "claim", "steps", "due", "k", "more", "at", "bad", "wrong", "later"]) (k := 8) T.t_law Zvs (by fail "~U1") ?_)
 intro f cdv A outer s H E hr
 unfold Zrv
 have nd := Zvs.nd
 fail "~d"
 refine Za9 (i := 1) ?_ ?_ ?_ ?_
 fail "~g a f"
 refine Zap ?_ ?_ Zaz
 refine Zao (ok_law_digits T) (hr.mono (by decide)) ?_ ?_
 fail "~a b"
 refine Zao (ok_law_at T) (hr.mono (by decide)) ?_ ?_
 fail "~a b h b o c a a b o c a a X d P g a f"
 refine Zao (Zhm T) (hr.mono (by decide)) ?_ ?_
 fail "~a b"
 refine Zao (Zld T) (hr.mono (by decide)) ?_ ?_
 fail "~a b h b o c a a b R c a a d L g a f"
 refine Zao (Zgd T) (hr.mono (by decide)) ?_ ?_
 fail "~a b m b h b o b"
 refine Zal Zat Zag ?_
 fail "~n R c a a a a d i u T J n R 0"
 refine Zan (Zdd hr.units) (Zab (pv 3)) ?_ (Zar _)
 fail "~A e L g a f at"
 refine Zfg (cn := ["steps"]) ?_ (Zck (x := "k") (cn := ["steps"]) (ci := [3]) (by decide +kernel)) ?_ ?_ ?_
 fail "~a Q a b n R c a p"
 exact Zej
 fail "~p w b v b 2"
 refine Zal Zat ?_ (Zab (pv 0))
 fail "~k a b j c a c a a d i y r"
 refine Zao (Zgr T) (hr.mono (by decide)) ?_ ?_
 fail "~a b m b s c a a e B d O g a f"
 refine Zao (ok_law_made T) (hr.mono (by decide)) ?_ ?_
 fail "~a b m b s c a a d z a Q a b o c a ad g a f d"
 refine Za9 (i := 6) ?_ ?_ ?_ ?_
 fail "~g a f"
 refine Zap ?_ ?_ Zaz
 refine Zao (ok_law_digits T) (hr.mono (by decide)) ?_ ?_
 fail "~a b"
 refine Zao (ok_law_at T) (hr.mono (by decide)) ?_ ?_
 fail "~a b h b"
 exact Zal Zat Zag (Zab (pv 5))
 fail "~c a a b o c a a X d 6 g a f S"
 exact Zbl ixf (Zab (pv 6)) Zag (fun _ _ => rfl)
 fail "~af k a b s c a d aw g a f"
 refine Zao (Zdk T) (hr.mono (by decide)) ?_ ?_
 fail "~a b m b"
 refine Zap (Zab (pv 4)) Zaz ?_
 fail "~aO b"
 refine Zbl ixf ?_ (Zab (pv 7)) (fun _ _ => rfl)
 fail "~at t b w b v b o c a a c a b"
 refine Zap (Zab (pv 6)) ?_ Zaz
 fail "~X c a a a a d"
 refine Za9 (i := 9) ?_ ?_ ?_ ?_
 fail "~g a f F F"
 refine Zap (Zab (pv 3)) Zaz ?_
 fail "~aO t b ah c a"
 refine Zap (Zab (pv 3)) ?_ Zaz
 fail "~aO d i J n"
 exact Zbl ixf (Zab (pv 6)) Zag (fun _ _ => rfl)
 fail "~d"
 refine Za9 (i := 10) ?_ ?_ ?_ ?_
 fail "~g a f F"
 exact Zal Zat (Zab (pv 7)) Zag
 fail "~S"
 exact Zbl ixf (Zab (pv 6)) Zag (fun _ _ => rfl)
 refine Zal Zds ?_ (Zab (pv 7))
 fail "~k a b aE c a d aw g a f"
 refine Zao (Zdk T) (hr.mono (by decide)) ?_ ?_
 fail "~a b m b"
 refine Zap (Zab (pv 4)) Zaz ?_
 fail "~aO b"
 refine Zbl ixf ?_ (Zab (pv 7)) (fun _ _ => rfl)
 fail "~at t b w b v b o c a a c a b"
 refine Zap (Zab (pv 6)) ?_ Zaz
 fail "~X c a a a a e"
 refine Za9 (i := 9) ?_ ?_ ?_ ?_
 fail "~g a f F F"
 refine Zap (Zab (pv 9)) Zaz ?_
 exact Zcu (Zab (pv 10))
 fail "~t b ah c a"
 refine Zap (Zab (pv 9)) ?_ Zaz
 exact Zcu (Zab (pv 10))
 fail "~e i y r"
 refine Zao (Zgk T) (hr.mono (by decide)) ?_ ?_
 fail "~a b m b aE c a a e B e l"
 refine Zei (Zg9 hr.units) ?_ ?_ (Zar _)
 refine Zao (ok_terms_of T) (hr.mono (by decide)) ?_ ?_
 fail "~a b m b A c a a A"
theorem Zz5 (T : Top K mg) : Fn P w K mg base 9 "law" ["script"] Zo5 := by
 exact Yay T
end
theorem walk {l : PySem.W.OpenLaw} {q : Vf} {loose : List Str} {XP : (Str -> Option Vb) -> Vu -> Prop} {YP : Vk -> Vu -> Prop} {d : DefRec} {K : Params -> Xa} (hn : l.most = some 63) (hdf : d.params.defaults = [])
  (hd : d.name = "law") (hY : ∀ (w : Vk) (h : Vu), YP w h → (K w.params).In h) (hT : ∀ (w : Vk) (mg : Str → Option Vb) (h : Vu), (K w.params).In h → h.Ns mainGlobals mg → Top (K w.params) mg)
  (pure : ∀ ns : List Int, ns.length ≤ 63 -> ∃ Hd', Zo5 [.fl (ns.map .int)] [] = some (.bl true, Hd')) : Wet q loose XP YP l.row.toRowW d [] (fun f vs => Tce f vs) := by
 refine L2.walk_ofK (n := 63) (k := 9) (x := "script") (CX := CX0) (sp := Yah Zo5) hn (by decide) hdf ⟨rfl, by decide, by decide, rfl⟩ hY (fun w mg fa h KX G hmg => ?_) (Zq6 pure) (fun _ _ _ _ z => z)
 have T := hT w mg h KX G
 obtain ⟨f, fd, F, hm⟩ := T.t_law
 have e0 : f = fa := by rw [hd] at hmg; rw [hm] at hmg; cases hmg; rfl
 subst e0
 have B := F.binds (ps := ["script"]) (fun _ _ _ _ _ _ us hl => by obtain ⟨_, rfl⟩ := us1 hl; rfl)
 refine ⟨fd, fun s u => ?_, fun base kb nb => ?_⟩
 ·obtain ⟨oc, od, kV, doc, pm, an, cdv, ct, osl, rfl, lk, hcd⟩ := F.ex
  exact .of_eq rfl
 ·obtain ⟨f', fd', G1, hb, hk, hm', oc', od', osl', lk'⟩ := (Zz5 (P := l.prog) (w := w) (base := base) T).ex
  have e1 : f' = f := by rw [hm] at hm'; cases hm'; rfl
  subst e1
  have e2 : fd' = fd := by
   obtain ⟨oc, od, kV, doc, pm, an, cdv, ct, osl, e3, lk, hcd⟩ := F.ex
   rw [lk] at lk'
   have e4 := Waa.inj lk'
   injection e4 with _ _ e5 _
   injection e5 with e6
   exact e6.symm
  subst e2
  exact G1
end K08
open PySem PySem.W PyProof.Rows L2 DL
local macro_rules | `(tactic| fail $s:str) => do
 if s.getString.take 1 != "=" then Lean.Macro.throwUnsupported
 let i := Lean.mkIdent
 match (s.getString.drop 1).toString with
  | "T" => `(tactic| (show Tf (L2.KOf $(i `KX)) _ _ _; dsimp only [L2.KOf]; refine' tf_mk $(i `KX) $(i `G) ?a ?l ?c ?k; (case a => k_is); (case l => k_is); (case c => k_is); (case k => k_is)))
  | "N" => `(tactic| (refine' PySem.W.mg_none_of $(i `KX) $(i `G) ?z; (case z => k_is)))
  | _ => Lean.Macro.throwUnsupported
set_option maxRecDepth 100000 in
set_option maxHeartbeats 0 in
theorem PySem.Challenge.cw_allsome_k29_terms_made_by_steps_holds : PySem.Challenge.rw_allsome_k29_terms_made_by_steps.Holds := by
 w_on; o_law; refine holds_open (q := (PySem.Challenge.vwOf PySem.Challenge.pw_allsome_k29_terms_made_by_steps)) (loose := []) (Xt := PySem.Challenge.xt0) (XP := XL (PySem.Challenge.vwOf PySem.Challenge.pw_allsome_k29_terms_made_by_steps) []) (Yf := Hook.obs PySem.Challenge.hk0) (Ya := Hook.val PySem.Challenge.hk0) (YP := InK PySem.Challenge.mk0.heap_39) (N := 6724) PySem.Challenge.left0 (Hook.of PySem.Challenge.hk0) (Hook.keeps PySem.Challenge.hk0) (fun s e => xl_of s (Weo.mp e).1) XL.keeps (by rfl) (by rfl) (by rfl) (fun s e => recFacts_of (Weo.mp e).2) (by rfl) (by assumption) (by decide +kernel) ⟨rfl, rfl, rfl, rfl, rfl, by decide +kernel⟩ ?hw ?hc
 (case hw => w_witness2)
 k_fill
 refine K08.walk (l := PySem.Challenge.rw_allsome_k29_terms_made_by_steps) rfl rfl rfl (fun w h Y => Y) ?T K08.pure_law
 case T =>
  intro w mg h KX G
  have y_NoStep : ∃ C Cl fI, YCl (L2.KOf KX) mg "NoStep" "step" "NoStep.__init__" K08.si_NoStep C Cl fI := by
   dsimp only [L2.KOf]
   refine' ⟨_, _, _, Yby KX G ?za ?zb ?zc ?zd ?ze ?zf ?zg ?zh ?zi ?zj ?zl ?zm ?zn ?zo ?zp ?zq ?zr ?zs ?zt ?zu ?zv ?zw⟩
   (case za => k_is); (case zb => k_is); (case ze => k_is); (case zc => k_is); (case zd => kernel_rfl); (case zf => k_is); (case zg => k_is); (case zh => k_is); (case zi => k_is); (case zj => k_is); (case zl => k_is); (case zm => k_is); (case zn => k_is); (case zo => k_is); (case zp => k_is); (case zq => k_is); (case zr => k_is); (case zs => k_is); (case zt => k_is); (case zu => k_is); (case zv => k_is); (case zw => k_is)
  have h_NoStep_NoStep : ∃ C cV, mg "NoStep" = some (.ref C) ∧ mg "NoStep" = some cV ∧ Wdm (L2.KOf KX) (.ref C) cV = some true := by
   dsimp only [L2.KOf]
   refine' ⟨_, _, Ze1 KX G ?za, Wco KX G ?zb, ?zc⟩
   (case za => k_is); (case zb => k_is); (case zc => kernel_rfl)
  have h_NoStep_ClaimError : ∃ C cV, mg "NoStep" = some (.ref C) ∧ mg "ClaimError" = some cV ∧ Wdm (L2.KOf KX) (.ref C) cV = some true := by
   dsimp only [L2.KOf]
   refine' ⟨_, _, Ze1 KX G ?za, Wco KX G ?zb, ?zc⟩
   (case za => k_is); (case zb => k_is); (case zc => kernel_rfl)
  have i_NoStep_0 : ∃ c0 c1 c2, Zxy (L2.KOf KX) mg "NoStep" [c0, c1, c2] ∧ mg "NoText" = some (.ref c0) ∧ mg "NotWon" = some (.ref c1) ∧ mg "TooMany" = some (.ref c2) := by
   dsimp only [L2.KOf]
   refine' ⟨_, _, _, Zv8 KX G ?za ?zr ?zs, Ze1 KX G ?zc0, Ze1 KX G ?zc1, Ze1 KX G ?zc2⟩
   (case za => k_is)
   (case zc0 => k_is); (case zc1 => k_is); (case zc2 => k_is)
   (case zr => kernel_rfl); (case zs => kernel_rfl)
  have i_NoStep_1 : ∃ c0 c1 c2 c3, Zxy (L2.KOf KX) mg "NoStep" [c0, c1, c2, c3] ∧ mg "NoBack" = some (.ref c0) ∧ mg "NoLine" = some (.ref c1) ∧ mg "NoPick" = some (.ref c2) ∧ mg "NoRow" = some (.ref c3) := by
   dsimp only [L2.KOf]
   refine' ⟨_, _, _, _, Zv8 KX G ?za ?zr ?zs, Ze1 KX G ?zc0, Ze1 KX G ?zc1, Ze1 KX G ?zc2, Ze1 KX G ?zc3⟩
   (case za => k_is)
   (case zc0 => k_is); (case zc1 => k_is); (case zc2 => k_is); (case zc3 => k_is)
   (case zr => kernel_rfl); (case zs => kernel_rfl)
  have v_claims_term : Fv (L2.KOf KX) mg "claims_term" := by
   dsimp only [L2.KOf]
   refine' fv_mk KX G ?za
   (case za => k_is)
  have o_NoStep : IsiO (L2.KOf KX) mg "NoStep" := by
   dsimp only [L2.KOf]
   refine' Zyi KX G ?za ?zb
   (case za => k_is); (case zb => kernel_rfl)
  exact ⟨by fail "=T", by fail "=T", by fail "=T", by fail "=T", by fail "=T", by fail "=T", by fail "=T", by fail "=T", by fail "=T", by fail "=T", by fail "=T", by fail "=T", by fail "=T", by fail "=T", by fail "=T", by fail "=T", by fail "=T", by fail "=T", by fail "=T", by fail "=T", by fail "=T", by fail "=T", by fail "=T", by fail "=T", by fail "=T", by fail "=T", by fail "=T", by fail "=T", by fail "=T", by fail "=T", by fail "=T", by fail "=T", by fail "=T", by fail "=T", by fail "=T", by fail "=T", by fail "=T", by fail "=T", by fail "=T", by fail "=T", by fail "=T", by fail "=T", by fail "=T", by fail "=N", by fail "=N", by fail "=N", by fail "=N", by fail "=N", by fail "=N", by fail "=N", by fail "=N", by fail "=N", by fail "=N", by fail "=N", by fail "=N", by fail "=N", by fail "=N", by fail "=N", y_NoStep, h_NoStep_NoStep, h_NoStep_ClaimError, i_NoStep_0, i_NoStep_1, v_claims_term, o_NoStep⟩
