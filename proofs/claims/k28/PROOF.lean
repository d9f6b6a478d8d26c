import PyProof.Rows.All
import Wide.All
import Wide.FinOn
import Lean
import PyProof.EqAt
import PyProof.EqKinds
import PyProof.TupleCall
import KE.KDictList
import KE.KDictOf
import KE.KIntText
import KE.KItemsList
import KE.KNest
import KE.KSortKey
import KE.KSortTup
import KE.KTryMore
import PyProof.AttrMissHeap
import PyProof.AutoSeq1
import PyProof.ExcAttrAll.ValueError
import PyProof.FitsBits
import PyProof.MeetsStr2
import PyProof.MinMaxWalk
import PyProof.P3Eq
import PyProof.P3In
import PyProof.ReprLen
import PyProof.Rows.DictRows
import PyProof.Rows.Own
import PyProof.Rows.RuleB_bool
import PyProof.Rows.TupIter
import PyProof.SeqI3
import PyProof.StrBlockG
import PyProof.StrOps2
import PyProof.StrWalks
import PyProof.SumWalkG
import PyProof.TupleOfSeq
import PyProof.WalkInts
import KE.KNest
import KE.KDictList
import KE.KSortAsk
import KE.KSortKey
import KE.KTryMore
import PySem.Challenge.RW_allsome_k28_whole_rows_put_to_the_claim
set_option Elab.async false
set_option compiler.extract_closed false
set_option bootstrap.genMatcherCode false
set_option linter.all false
set_option maxRecDepth 100000
open PySem.Str renaming ofString → Ua
open PySem.PyData renaming eqv → Ub, eqvAll → Uu, canLay0 → Tac, depth → Tam, canLayAll0 → Tbp, strOk → Tbz, depthAll → Tca
open PySem.Builtin.SmallTypes renaming ownedTupleIsFree → Uc, ownedTupleHandOut → Ud
open PySem.NameKind renaming free → Ue, cell → Taa
open PyProof.Rows renaming slot_tuple_getitem → Uf, callWith_type1 → Ui
open PySem.F renaming slot_list_append → Ug, type_list_append → Uh, slot_enumerate_next → Uk, slot_dict_keyiterator_next → Um, slot_dict_setdefault → Ur, slot_tuple_iterator_next → Ut, args_enumerate_next_1 → Tab, entry_enumerate_next → Tae, called_enumerate → Taf, type_dict_setdefault → Tag, slot_tuple_mul → Taj, args_tuple_add_2 → Tak, entry_tuple_add → Tan, slot_tuple_add → Tap, entry_enumerate_new → Taq, args_dict_keyiterator_next_1 → Tar, slot_bool_hash → Tas, entry_dict_keyiterator_next → Tat, args_tuple_iterator_next_1 → Tav, slot_int_rmul → Taz, entry_tuple_iterator_next → Tbb, slot_zip_next → Tbc, args_tuple_mul_2 → Tbj, entry_tuple_mul → Tbo, typeCall_enumerate_1 → Tbu, newCall_enumerate_1 → Tbw, slot_dict_len → Tbx, args_object_init_2 → Tcd, args_int_rmul_2 → Tcj, args_zip_next_1 → Tcl
open PySem renaming mem_of_lookup → Uj, sizeLine_eq → Uy, Spec → Tad, seqSlot_of → Tcm, call → Tcs
open False renaming elim → Ul
open Ne renaming symm → Uo
open PySem.Value renaming none → Uq, ref → Uw, type → Tbn, bool → Tci
open PySem.Builtin.List renaming listExtendWith → Us, listTooLong → Tal
open PySem.Builtin.Slice renaming slicePlaces → Uv, sliceAdjust → Tai, sliceApplied → Tbf
open PySem.Builtin.Tuple renaming tupleExact → Ux, tupleItemsOf → Tbg, tupleTooMany → Tbh, tupleIsExact → Tbi, tupleHashOf → Tbl
open PySem.Builtin.Range renaming rangeSize → Uz, small → Tcf
open ForInStep renaming yield → Tah
open PySem.Obj renaming data_mapFields → Tao, mapSeq → Tax, isFreed_of_fields → Tbv, data_mapDictKeys → Tce, cls_mapFields → Tck
open Or renaming inr → Tau, inl → Tba
open PySem.Builtin.Dict_items renaming ownsTuple → Taw
open True renaming intro → Tay
open PySem.PassesOwn renaming never → Tbd
open PySem.Calls renaming Name_function_global → Tbe, callWith_builtin → Tbt, evalArgs_plain → Tcc
open PySem.Code renaming quiet_builtin → Tbk
open Decidable renaming byContradiction → Tbm
open PySem.Shared renaming heap → Tbq
open PySem.AutoSeq1 renaming idx_int → Tbr
open PyProof renaming noPylong_small → Tbs
open PySem.Builtin.Dict renaming showsAll → Tby
open PySem.Around renaming frames_deeper → Tcb
open Sum renaming inl → Tcg, inr → Tch
open PySem.W renaming OpenLaw → Tcn
open PySem.SeqAt.EqAt renaming bool_bool → Tco, int_bool → Tcp, bool_int → Tcq
open PySem.FuncBody renaming stmts → Tcr
open PySem.Paired renaming length → Tct
open PyProof.Rows.KskEnd renaming intro → Tcu
open PySem.IsRange renaming new → Tcv
open Lean in
local macro_rules (kind:=Lean.Parser.Command.declaration) | d=>do
 if d[0].getArgs.any (fun x=>x[0].isOfKind `Lean.Parser.Command.nonrec) then return d.setArg 0 (<- `(command| noncomputable def a:=1)).raw[0]
 else Macro.throwUnsupported
open PySem renaming wpAny_bind → Va, Value → Vb, wpAny_pure → Vc, Shared → Vd, Addr → Ve, wpAny → Vf, starEach → Vg, Program → Vh, wpAny_callSpecial?_slot → Vi, Paired → Vj, wpAny_setField_rec → Vk, mainGlobals → Vl, model → Vm, wpAny_field → Vn, wpAny_loadPart' → Vo, wpAny_call_entry → Vp, bootBuiltins → Vq, compareOp → Vr, wpAny_newObj_type → Vs, Around → Vt, World → Vu, Expr → Vv, wpAny_holding → Vw, foldedSetIterable → Vx, binaryOp → Vy, Heap → Vz, rawInt → Uaa, wpAny_typeNameOfWhole_keyiter → Uab, lookup_relabel_local → Uac, sysModules → Uad, Stmt → Uae, PyData → Uaf, wpAny_pyIter_tuple → Uag, wpAny_seqItems → Uah, wpAny_truthy_bool → Uai, wpAny_passesOwn → Uaj, DictEntry → Uak, backTo → Ual, wpAny_attempt → Uam, wpAny_mono → Uan, assignEach → Uao, wpAny_Call_Name_kw → Uap, FuncData → Uaq, wpAny_pyIter_enum → Uar, wpAny_pyIter_list → Uas, wpAny_dictEntries → Uat, IsEnum → Uau, IsPair → Uaw, codeAny_mono → Uax, wpAny_comprehension_free → Uay, tupleKind → Uaz, behindInMarks → Uba, NameKind → Ubb, codeAny_builtin → Ube, sizeLine_eq → Ubf, sliceBounds → Ubg, keywordEach → Ubh, wpAny_rule → Ubi, pyNext → Ubj, wpAny_isInstance → Ubk, wpAny_updateSeq_pair → Ubl, Scope → Ubm, wpAny_standAt → Ubn, call_meets → Ubo, wpAny_letGo → Ubp, wpAny_newFunctionEnv_cells → Ubq, wpAny_letOwnedTupleGo_enum → Ubr, compEnvC → Ubs, tupleKind_room_in1 → Ubt, wpAny_binaryOp_repeat_ref → Ubu, wpAny_setField → Ubv, firstArgMember → Ubw, isSubtype_stop → Ubx, bindArgs → Uby, Keyword → Ubz, wpAny_newList → Uca, wpAny_onRaise → Ucb, noFill_tuple_add → Ucc, wpAny_pyNext_range_end → Ucd, wpAny_pyIter_rangeiter → Uce, wpAny_Call_method_late → Ucg, codeAny_compStart_list → Uch, wpAny_execs_nil → Uck, swapsWith → Ucl, letOwnedTupleGo → Ucm, codeAny → Ucn, codeAny_call_function → Uco, wpAny_typeOf → Ucp, IsEnumOut → Ucq, wpAny_stack_any → Ucr, wpAny_notOrdered_dict → Ucs, wpAny_dictEpoch → Uct, wpAny_isOneOf_keyiter → Ucu, typeIs_int → Ucv, backToKw → Ucw, wpAny_loadName_local → Ucx, wpAny_newFunctionEnv → Ucy, wpAny_pyIter_keyiter → Ucz, codeAny_call_builtin → Uda, assign → Udd, wpAny_newTuple → Ude, dictSetDefault → Udg, wpAny_loadName_cell → Udh, holding → Udi, IsRangeIter → Udj, getItem → Udk, field → Udl, IsZip → Udn, seq_tuple_add → Udo, IsPart → Udp, attributeBase → Udq, setField → Udr, sub_enumerate → Uds, ZipApart → Udt, callerA → Udu, concat_meets → Udw, callType_new → Udx, Operator → Udz, callWith → Uea, hashInt → Ueb, storeName → Uec, PassesOwn → Ued, cellsFrom → Uee, Arguments → Uef, wpAny_of_eq → Ueg, wpAny_mkInt → Ueh, storedH → Uei, Meets → Uek, stored → Uel, newList → Uen
open PyProof.Rows renaming seqObj → Uav, envOfC → Ubc, IntsAre → Ubd, subscriptTail_builtinR → Ucf, call_function_entry_kw → Uci, AllBare → Ucj, entry_proto_collect' → Udb, callWith_builtin_kwB → Udc, boot_enumerate → Udf, wpAny_call_entry_kw → Udm, call_abs_int → Udv, evalArgs_kwB → Udy, IsTup → Uem
open PySem.W renaming tabIn → Uej
open PySem.Heap renaming get?_push_of_some → Xa, get?_push_size → Xe, lt_size → Xf, SameBut → Xz, size_push → Wao, get?_update_self → Wdf, ExtBut → Wdo
open PySem.W renaming Frag → Xb, fnOf → Wbc, kia_one → Wby, keepIn → Wcd, codeIn → Wcn, nsIn → Wcq, cellsFrom_some → Wcz, methodObj → Web, callWith_K → Wfb, codeRec_of → Wfc, mg_of → Wfd, kitx_list → Wfj, WalkO → Wga
open List renaming getElem?_eq_some_iff → Xc, getElem?_append_left → Xg, mem_cons → Xh, length_map → Xk, length_append → Xl, size_toArray → Xm, getElem?_eq_getElem → Xn, getElem?_append_right → Xo, getElem?_map → Xp, map_cons → Xq, mem_append_right → Xr, replicate → Xs, mem_of_getElem? → Xu, mem_append → Xv, append_assoc → Xw, mem_map → Xx, append_nil → Waa, all_eq_true → Wab, getElem_mem → Wac, mem_filter → Wad, map_append → Wae, exists_cons_of_length_eq_add_one → Wah, lookup_cons → Wai, mem_cons_of_mem → Wak, getElem?_set_ne → Wal, length_filter_le → Waq, getD_eq_getElem?_getD → War, any_eq_true → Was, nodup_append → Wat, drop_eq_getElem_cons → Wau, length_nil → Wav, filter_sublist → Wax, length_take → Way, filter_cons_of_neg → Waz, mem_append_left → Wba, getElem?_set_self → Wbd, getLast?_eq_some_iff → Wbf, getElem?_take_of_lt → Wbh, mem_range → Wbi, nodup_cons → Wbk, replicate_succ → Wbl, length_singleton → Wbm, mem_iff_getElem? → Wbn, length → Wbo, getElem?_replicate → Wbp, filter_cons_of_pos → Wbq, not_mem_nil → Wbs, map_map → Wbt, cons → Wbu, flatten_cons → Wbw, find?_cons → Wbz, getElem?_cons_succ → Wca, cons_append → Wcc, find?_cons_of_neg → Wce, mem_cons_self → Wcf, zip_cons_cons → Wcg, filter_append → Wch, set_getElem_self → Wci, filter_map → Wcl, any_eq_false → Wcm, range → Wcp, mem_filterMap → Wcr, of_mem_zip → Wcs, nil_append → Wct, all_cons → Wcu, length_eq_zero_iff → Wcv, mem_singleton → Wcw, any_cons → Wcx, map_drop → Wcy, drop_eq_nil_of_le → Wda, find?_cons_of_pos → Wdc, getElem?_set → Wdd, map_nil → Wde, length_cons → Wdg, take_append_of_le_length → Wdh, mem_flatMap → Wdi, take_length → Wdj, mem_of_getLast? → Wdk, getLast?_append → Wdl, filterMap_cons → Wdm, map_congr_left → Wdr, getElem?_concat_length → Wds, exists_cons_of_ne_nil → Wdt, pairwise_cons → Wdv, lookup_append → Wdw, getLast?_cons → Wdx, getElem?_zip_eq_some → Wdy, mem_of_find?_eq_some → Wdz, take_take → Wea, foldl → Wec, pairwise_map → Wed, reverse_cons → Wee, length_drop → Wef, take_of_length_le → Weh, drop_of_length_le → Wei, range_succ_eq_map → Wej, filter_eq_nil_iff → Wek, length_replicate → Wel, forIn_cons → Wem, getElem?_eq_none → Weq, take_append_drop → Wer, all_append → Weu, mem_iff_getElem → Wev, mem_of_mem_drop → Wew, lookup → Wey, mem_map_of_mem → Wfa, set → Wff, map_take → Wfg, take_sublist → Wfh, getElem?_inj → Wfi, ext_getElem? → Wfk, flatMap_cons → Wfm, getElem_inj → Wfq, zipIdx_cons → Wfs, zipIdx_nil → Wfv, find?_some → Wfw, forIn_nil → Wfy, take_left → Wfz
open Nat renaming le_refl → Xd, ne_of_lt → Xi, lt_of_lt_of_le → Xj, le_trans → Waf, zero_le → Wbb, lt_irrefl → Wbg, ne_of_gt → Wbr, pow_le_pow_right → Wbv, lt_succ_of_lt → Wbx, zero_add → Wcj, le_succ → Wdp, min_eq_left → Wdq, le_of_lt → Wdu, succ_ne_self → Weg, sub_self → Wes, pow_succ → Wet, mul_comm → Wfn, add_zero → Wfo, succ_le_succ → Wft
open Option renaming some → Xy, isSome_iff_exists → Waj, map_some → Wen, isSome_map → Wfl, getD_none → Wfr
open Int renaming toNat_natCast → Wag, emod_lt_of_pos → Wap, emod_nonneg → Waw, toNat_of_nonneg → Wcb, le_refl → Wck
open Bool renaming and_eq_true → Wam, false_eq_true → Wan, false_ne_true → Wbj, or_eq_true → Weo, and_eq_true_iff → Wex, not_not → Wfp, eq_iff_iff → Wfu, false_and → Wfx
open Prod renaming mk → Wbe
open Array renaming getElem?_eq_getElem → Wco, getElem?_eq_none → Wdb, length_toList → Wdn, getElem?_toList → Wep, toList_append → Wez, empty_append → Wfe
theorem Zo {α β:Type} {x:Option α} {f:α->Option β} {b:β} (h:x.bind f=some b):∃ a,x=some a/\f a=some b:=Option.bind_eq_some_iff.1 h
theorem Zm {α β:Type} {x:Option α} {f:α->β} {b:β} (h:x.map f=some b):∃ a,x=some a/\f a=b:=Option.map_eq_some_iff.1 h
theorem Zb {α β:Type} (a:α) (f:α->Option β):(some a).bind f=f a:=rfl
namespace PySem.W
open PySem
/-! the top run on a tree -/
def treeOf:List Obj->Nat->BT->Option BT
  | [],_,t=>some t
  | o::r,i,t=>match ((t.ins i o).get i).isSome with
    | true=>treeOf r (i+1) (t.ins i o)
    | false=>none
theorem treeOf_abs {life}:∀ (l:List Obj) (i:Nat) (t T:BT),treeOf l i t=some T->absHeap T (i+l.length) life=⟨(absHeap t i life).objs++l.toArray,life⟩
  | [],i,t,T,h=>by cases h; simp[absHeap]
  | o::r,i,t,T,h=>by
    unfold treeOf at h
    cases e:((t.ins i o).get i).isSome with
    | false=>rw[e] at h; cases h
    | true =>
      rw[e] at h
      have a:=treeOf_abs (life:=life) r (i+1) (t.ins i o) T h
      rw[absHeap_ins e] at a
      rw[List.length_cons,show i+(r.length+1)=i+1+r.length by omega,a]
      simp[Heap.push]
def topRunT (tb:String->Option Builtin) (p:Program) (w:World) (n₀:Nat) (ann:Option Value):Nat->SharedT->Thread->Option SharedT
  | 0,_,_=>none
  | n+1,s,t=>match through t with
    | true=>some s
    | false=>match stepOk n₀ ann t with
      | false=>none
      | true=>match stepT (denote tb) p w s t with
        | some (s',t')=>topRunT tb p w n₀ ann n s' t'
        | none=>none
theorem topRun_of {tb:String->Option Builtin} {p:Program} {w:World} {n₀:Nat} {ann:Option Value}:∀ {n:Nat} {s s':SharedT} {t:Thread},topRunT tb p w n₀ ann n s t=some s'->topRun tb p w n₀ ann n s.abs t=some s'.abs
  | 0,_,_,_,h=>by cases h
  | n+1,s,s',t,h=>by
    unfold topRunT at h
    unfold topRun
    cases he:through t with
    | true=>rw[he] at h; cases h; rfl
    | false =>
      rw[he] at h
      cases hk:stepOk n₀ ann t with
      | false=>rw[hk] at h; cases h
      | true =>
        rw[hk] at h
        cases hs:stepT (denote tb) p w s t with
        | none=>rw[hs] at h; cases h
        | some r=>obtain⟨s₂,t₂⟩:=r; rw[hs] at h; rw[stepT_spec hs]; exact topRun_of h
def topT (tb:String->Option Builtin) (p:Program) (w:World) (N:Nat) (s₀:Shared):Option Shared :=
  match s₀.heap.isNs mainGlobals&&s₀.gens.size==0 with
  | true=>(treeOf s₀.heap.objs.toList 0 .nil).bind fun T=>(topRunT tb p w s₀.heap.objs.size (s₀.heap.nsMap mainGlobals "__annotations__") N ⟨T,s₀.heap.objs.size,s₀.heap.life,s₀.gens,s₀.drawn,s₀.toks,s₀.os⟩ (topStub p)).bind fun s₁ =>
    match staticsOk (importedModules p.main.body) s₀.heap s₁.abs.heap&&namesBound p s₁.abs.heap&&gensDone s₁.abs&&laidKept s₀.heap s₁.abs.heap with
    | true=>some s₁.abs
    | false=>none
  | false=>none
theorem topT_of {tb:String->Option Builtin} {p:Program} {w:World} {N:Nat} {s₀ r:Shared} (h:topT tb p w N s₀=some r):topFrom tb p w N s₀=some r:=by
  unfold topT at h
  unfold topFrom
  cases e:(s₀.heap.isNs mainGlobals&&s₀.gens.size==0) with
  | false=>rw[e] at h; cases h
  | true =>
    rw[e] at h
    obtain⟨T,h1,h⟩:=Option.bind_eq_some_iff.mp h
    obtain⟨s₁,h2,h⟩:=Option.bind_eq_some_iff.mp h
    have a:=treeOf_abs (life:=s₀.heap.life) _ _ _ _ h1
    have b:=topRun_of h2
    have c:(SharedT.mk T s₀.heap.objs.size s₀.heap.life s₀.gens s₀.drawn s₀.toks s₀.os).abs=s₀:=by
      unfold SharedT.abs
      have z:absHeap T s₀.heap.objs.size s₀.heap.life=s₀.heap:=by
        have a':=a
        rw[Nat.zero_add] at a'
        rw[show s₀.heap.objs.size=s₀.heap.objs.toList.length by simp,a']
        obtain⟨⟨objs,life⟩,g,d,t,o⟩:=s₀
        simp[absHeap,BT.list]
      show Shared.mk (absHeap T s₀.heap.objs.size s₀.heap.life) s₀.gens s₀.drawn s₀.toks s₀.os=s₀
      rw[z]
    rw[c] at b
    rw[b]
    exact h
end PySem.W
section
open PySem PySem.W PyProof.Rows
nonrec def PySem.Challenge.vwOf (p:Vh):Vh:={ p with main:={ p.main with body:=[1,2,4,5,6,8,9,10,11,12,13,15,16,17,18,19,21,22,23,24,25,26,27,28,29,30,31,32,33,34,36,37,38,40,41,42,43,44,45,46,47,48,49,50,51,52,53,54,55,56,57,58,59,60].filterMap fun i=>p.main.body[i]? } }
local macro_rules | `(tactic| o_head $_) => `(tactic| exact Ul (by assumption))
set_option maxRecDepth 100000 in
set_option maxHeartbeats 0 in
theorem PySem.Challenge.mk0:False->PySem.Challenge.rw_allsome_k28_whole_rows_put_to_the_claim.Holds:=by
 intro f; w_on; o_law; k_head
nonrec def PySem.Challenge.hk0:Hook:=kHook PySem.Challenge.mk0.heap_39 [2,3,15,16,18,19,21,22,23,30,31,32,33,36,43,45,46,48,49,50,51,52,55,62,63,64,67,69,70,72,73,74,76,77,79,80,81,83,84,86,87,88,90,91,93,94,95,97,98,100,101,102,104,105,107,108,109,112,113,114,116,117,119,120,121,123,124,126,127,128,130,131,133,134,135,137,138,140,141,142,144,145,147,148,149,151,152,154,155,156,158,159,161,162,163,166,167,168,170,171,173,174,175,177,178,180,181,182,184,185,187,188,189,191,192,194,195,196,198,199,201,202,203,205,206,208,209,210,212,213,215,216,217,219,220,222,223,224,226,227,229,230,231,234,235,236,238,239,241,242,243,245,246,248,249,250,252,253,255,256,257,259,260,262,263,264,266,267,269,270,271,273,274,276,277,278,280,281,283,284,285,287,288,290,291,292,295,296,297,299,300,302,303,304,306,307,309,310,311,314,315,316,318,319,321,322,323,325,326,328,329,330,333,334,335,337,338,340,341,342,345,346,347,350,351,359,362,363,364,367,368,369,372,373,374,377,378,379,381,382,384,385] (fun _=>by kernel_rfl)
nonrec def PySem.Challenge.xt0 (s:Vd):Bool:=xlAt (PySem.Challenge.vwOf PySem.Challenge.pw_allsome_k28_whole_rows_put_to_the_claim) [] s&&recOk (RowW.records (OpenRow.toRowW (OpenLaw.row PySem.Challenge.rw_allsome_k28_whole_rows_put_to_the_claim))) s
set_option maxRecDepth 100000 in
theorem PySem.Challenge.left123456789 (w:World) (os:OsState):(topT treeTable (OpenLaw.row PySem.Challenge.rw_allsome_k28_whole_rows_put_to_the_claim).prog w 4650 ⟨boot_heap w.params,Array.mk [],boot_drawn,boot_toks,os⟩).map (fun s=>openSeen (PySem.Challenge.vwOf PySem.Challenge.pw_allsome_k28_whole_rows_put_to_the_claim) [] (importedModules (OpenLaw.row PySem.Challenge.rw_allsome_k28_whole_rows_put_to_the_claim).prog.main.body) PySem.Challenge.xt0 true s)=some (openGood (PySem.Challenge.vwOf PySem.Challenge.pw_allsome_k28_whole_rows_put_to_the_claim) []):=by
 unfold PySem.Challenge.xt0
 try rewrite[PySem.W.Fast.te4187177175401517315]
 try rewrite[PySem.W.Fast.te5923862056798008813]
 try rewrite[PySem.W.Fast.te2368527892694137696]
 try rewrite[PySem.W.Fast.te3102742303334012830]
 try rewrite[PySem.W.Fast.te14063450306091155494]
 try rewrite[PySem.W.Fast.te14364793385576792824]
 kernel_rfl
set_option maxRecDepth 100000 in
theorem PySem.Challenge.leftc (w:World) (os:OsState):(topT treeTable (OpenLaw.row PySem.Challenge.rw_allsome_k28_whole_rows_put_to_the_claim).prog w 4650 ⟨boot_heap w.params,Array.mk [],boot_drawn,boot_toks,os⟩).map (fun s=>PySem.Challenge.hk0.obs s)=some (PySem.Challenge.hk0.val w):=by
 try rewrite[PySem.W.Fast.te4187177175401517315]
 try rewrite[PySem.W.Fast.te5923862056798008813]
 try rewrite[PySem.W.Fast.te2368527892694137696]
 try rewrite[PySem.W.Fast.te3102742303334012830]
 try rewrite[PySem.W.Fast.te14063450306091155494]
 try rewrite[PySem.W.Fast.te14364793385576792824]
 kernel_rfl
theorem PySem.Challenge.left0:LeftO (OpenLaw.row PySem.Challenge.rw_allsome_k28_whole_rows_put_to_the_claim).prog (PySem.Challenge.vwOf PySem.Challenge.pw_allsome_k28_whole_rows_put_to_the_claim) [] PySem.Challenge.xt0 PySem.Challenge.hk0.obs PySem.Challenge.hk0.val 4650:=fun w=>by
 obtain⟨⟨h,g,d,t,os⟩,hs,hv⟩:=Option.map_eq_some_iff.mp (boot_open (p:=(OpenLaw.row PySem.Challenge.rw_allsome_k28_whole_rows_put_to_the_claim).prog) (N:=4650) (by kernel_rfl) (by kernel_rfl) (fun s=>by kernel_rfl) w)
 obtain⟨e1,hv⟩:=Prod.mk.inj (show (h,g,d,t)=_ from hv)
 obtain⟨e2,hv⟩:=Prod.mk.inj hv
 obtain⟨e3,e4⟩:=Prod.mk.inj hv
 subst e1; subst e2; subst e3; subst e4
 obtain⟨r,h1,hc⟩:=Option.map_eq_some_iff.mp (PySem.Challenge.leftc w os)
 have h123456789:=PySem.Challenge.left123456789 w os
 rw[h1,Option.map_some] at h123456789
 replace h123456789:=Option.some.inj h123456789
 unfold openEnds
 rw[hs,Option.bind_some,topT_of h1]
 exact congrArg some (Prod.ext h123456789 hc)
end
namespace L2
open PySem PySem.Spec PyProof.Rows
nonrec abbrev Key:=Sum Int Str
nonrec def Yaz:Key->Vb->Bool
 | .inl k,v=>Value.isInt k v
 | .inr x,v=>Value.isStrOf x v
nonrec def keyH (w:Vu):Key->Int
 | .inl k=>Ueb k
 | .inr x=>hashStr w x
theorem Zbr:∀ {k:Key} {v:Vb},Yaz k v=true->(∃ i t,k=Tcg i/\v=Value.int i t)\/(∃ x t,k=Tch x/\v=Value.str x t)
 | .inl i,v,h=>by
  obtain⟨t,e⟩:=Value.isInt_shape (k:=i) (v:=v) h
  exact .inl ⟨i,t,rfl,e⟩
 | .inr x,v,h=>by
  obtain⟨t,e⟩:=Value.isStrOf_shape (x:=x) (v:=v) h
  exact .inr ⟨x,t,rfl,e⟩
theorem Ydj (a b:Int):decide ((Tcg a:Key)=Tcg b)=(a==b):=by
 by_cases e:a=b
 ·subst e; simp
 ·have h:¬ (Tcg a:Key)=Tcg b:=fun q=>e (Sum.inl.inj q)
  rw[decide_eq_false h]
  exact(beq_eq_false_iff_ne.mpr e).symm
theorem Ybv (a b:Str):decide ((Tch a:Key)=Tch b)=decide (a=b):=by
 by_cases e:a=b
 ·subst e; simp
 ·have h:¬ (Tch a:Key)=Tch b:=fun q=>e (Sum.inr.inj q)
  rw[decide_eq_false h,decide_eq_false e]
theorem Ydp (a:Int) (b:Str):decide ((Tcg a:Key)=Tch b)=false:=decide_eq_false (fun q=>nomatch q)
theorem Ybq (a:Str) (b:Int):decide ((Tch a:Key)=Tcg b)=false:=decide_eq_false (fun q=>nomatch q)
nonrec def Zoa (prog:Vh) (w:Vu):PySem.KeyKind prog w Key where
 is:=Yaz
 hash:=keyH w
 inj:=fun v a b ha hb=>by
  rcases Zbr ha with ⟨i,t,rfl,rfl⟩ | ⟨x,t,rfl,rfl⟩
  ·rcases Zbr hb with ⟨j,u,rfl,e⟩ | ⟨y,u,rfl,e⟩
   ·injection e with e1 _; rw[e1]
   ·exact nomatch e
  ·rcases Zbr hb with ⟨j,u,rfl,e⟩ | ⟨y,u,rfl,e⟩
   ·exact nomatch e
   ·injection e with e1 _; rw[e1]
 byValue:=fun k v h=>by
  rcases Zbr h with ⟨i,t,rfl,rfl⟩ | ⟨x,t,rfl,rfl⟩<;>rfl
 pyHash:=fun hv h=>by
  rcases Zbr hv with ⟨i,t,rfl,rfl⟩ | ⟨x,t,rfl,rfl⟩
  ·exact wpAny_pyHash_int h
  ·exact wpAny_pyHash_str h
 eqBool:=fun hu hv h=>by
  rcases Zbr hu with ⟨i,t,rfl,rfl⟩ | ⟨x,t,rfl,rfl⟩
  ·rcases Zbr hv with ⟨j,u,rfl,rfl⟩ | ⟨y,u,rfl,rfl⟩
   ·rw[Ydj] at h; exact wpAny_eqBool_int h
   ·rw[Ydp] at h; exact SeqAt.EqAt.int_str i t y u _ _ _ _ h
  ·rcases Zbr hv with ⟨j,u,rfl,rfl⟩ | ⟨y,u,rfl,rfl⟩
   ·rw[Ybq] at h; exact SeqAt.EqAt.str_int x t j u _ _ _ _ h
   ·rw[Ybv] at h; exact wpAny_eqBool_str h
 «strs»:=fun k x t v h=>by
  rcases Zbr h with ⟨i,u,rfl,e⟩ | ⟨y,u,rfl,e⟩
  ·exact nomatch e
  ·injection e with e1 _
   subst e1
   cases v<;>rfl
inductive V where
 | non | bl (b:Bool) | int (i:Int) | str (x:Str) | byt (b:Array UInt8) | flt (b:UInt64) | ref (a:Ve) | ty (n:String)
nonrec def Zcg:V->Vb->Prop
 | .non,u=>u=Uq
 | .bl b,u=>u=Tci b
 | .int i,u=>∃ t,u=Value.int i t
 | .str x,u=>∃ t,u=Value.str x t
 | .byt b,u=>∃ t,u=Value.bytes b t
 | .flt b,u=>∃ t,u=Value.float b t
 | .ref a,u=>u=Uw a
 | .ty n,u=>u=Tbn n
nonrec abbrev Zb8:List V->List Vb->Prop:=Vj Zcg
theorem Zb8.length {xs:List V} {us:List Vb} (r:Zb8 xs us):xs.length=us.length:=Tct r
theorem Zb8.get:∀ {xs:List V} {us:List Vb} {i:Nat} {x:V},Zb8 xs us->xs[i]? = some x->∃ u,us[i]? = some u/\Zcg x u
 | _,_,_,_,.nil,e=>by simp at e
 | _,_,0,_,.cons r _,e=>by simp at e; subst e; exact⟨_,rfl,r⟩
 | _,_,i+1,x,.cons _ t,e=>by
  obtain⟨u,h1,h2⟩:=Zb8.get (i:=i) (x:=x) t (by simpa using e)
  exact⟨u,by simpa using h1,h2⟩
theorem Zb8.append:∀ {xs ys:List V} {us ws:List Vb},Zb8 xs us->Zb8 ys ws->Zb8 (xs++ys) (us++ws)
 | _,_,_,_,.nil,s=>s
 | _,_,_,_,.cons r t,s=>.cons r (Zb8.append t s)
theorem Zb8.take:∀ {xs:List V} {us:List Vb} (n:Nat),Zb8 xs us->Zb8 (xs.take n) (us.take n)
 | _,_,0,_=>.nil
 | _,_,_+1,.nil=>.nil
 | _,_,n+1,.cons r t=>.cons r (Zb8.take n t)
theorem Zb8.drop:∀ {xs:List V} {us:List Vb} (n:Nat),Zb8 xs us->Zb8 (xs.drop n) (us.drop n)
 | _,_,0,r=>r
 | _,_,_+1,.nil=>.nil
 | _,_,n+1,.cons _ t=>Zb8.drop n t
nonrec def RelO:Option V->Option Vb->Prop
 | some v,some u=>Zcg v u
 | none,none=>True
 | _,_=>False
nonrec def KV {κ:Type}:List (κ×V)->List (κ×Vb)->Prop:=Vj fun(p:κ×V) (q:κ×Vb)=>p.1=q.1/\Zcg p.2 q.2
nonrec def kV:Key->V
 | .inl i=>.int i
 | .inr x=>.str x
inductive HO where
 | lst (xs:List V)
 | tup (xs:List V)
 | dK (kvs:List (Key×V)) | dT (kvs:List (List Key×V))
 | set (S:Int->Bool) (n:Nat)
 | ins (C dx:Ve) (fs:List (Str×V))
 | own (x:Ve)
 | xd (fs:List (Str×V))
 | met (f x:Ve)
 | rng (lo hi:Int)
 | frz (o:Obj) (u:HO)
 | tbl (ps:Array Vb)
 | ext (φ:Vz->Prop)
nonrec abbrev Hp:=Ve->Option HO
nonrec def upd (H:Hp) (a:Ve) (o:HO):Hp:=fun b=>if b=a then some o else H b
theorem Zaq {H:Hp} {a:Ve} {o:HO}:upd H a o a=some o:=by unfold upd; rw[if_pos rfl]
theorem Zah {H:Hp} {a b:Ve} {o:HO} (h:b≠a):upd H a o b=H b:=by unfold upd; rw[if_neg h]
theorem Zna {H:Hp} {a b:Ve} {o u:HO} (h:H a=some o) (h':H b=some u) (d:o≠u):a≠b:=by
 intro e; subst e; rw[h] at h'; exact d (Xy.inj h')
theorem Zai {H:Hp} {a b:Ve} {o:HO} (h:H a=some o) (h':H b=none):a≠b:=by
 intro e; subst e; rw[h] at h'; cases h'
def Zk5 (h:Vz) (a:Ve) (items:Array Vb):Prop:=∃ o,h.get? a=some o/\o.cls=.type "tuple" /\ (∃ n,o.data=.seq items n)/\o.dict=none
theorem Zk5.new (h:Vz) (items:Array Vb):Zk5 (h.push { cls:=.type "tuple",data:=.seq items }) h.objs.size items:=⟨_,Xe _ rfl,rfl,⟨_,rfl⟩,rfl⟩
theorem Zk5.tup {h:Vz} {a:Ve} {items:Array Vb} (x:Zk5 h a items):Uem h a items:=let ⟨o,e,c,d,_⟩:=x; ⟨o,e,c,d⟩
section
variable (P:Vh) (w:Vu)
nonrec def Zc9 (H:Hp) (h:Vz) (a:Ve):HO->Prop
 | .lst xs=>xs.length<=sizeLine/\∃ (its:List Vb) (n:Nat),Zb8 xs its/\h.get? a=some { cls:=.type "list",data:=.seq its.toArray n }
 | .tup xs=>xs.length<=sizeLine/\∃ its:List Vb,Zb8 xs its/\Zk5 h a its.toArray
 | .dK kvs=>kvs.length<=sizeLine/\(a==Uad)=false/\∃ vs,KV kvs vs/\h.DictOf (Zoa P w) a vs
 | .dT kvs=>kvs.length<=sizeLine/\(a==Uad)=false/\∃ xs:List (List Key×Ve×Vb),
   Vj (fun(p:List Key×V) (q:List Key×Ve×Vb)=>p.1=q.1/\H q.2.1=some (.tup (p.1.map kV))/\Zcg p.2 q.2.2) kvs xs /\
   ∃ o es ep,h.get? a=some o/\o.ExactDict/\o.data=.dict es ep/\es.toList=xs.map (entryOfKey (Uaz (Zoa P w)))/\(xs.map (·.1)).Nodup
 | .set S n=>h.SetOf (intKind P w) a S n
 | .ins C dx fs=>H dx=some (.own a)/\fs.length<=1000/\dx≠a/\h.get? a=some (PySem.W.instObj C dx) /\
   ∃ mA,h.Ns1 dx mA/\(∀ f,RelO (fs.lookup f) (mA f))/\PySem.Within mA (fs.map (·.1))
 | .own _=>∃ o,h.get? a=some o
 | .xd fs=>∃ mA,h.Ns1 a mA/\∀ f,RelO (fs.lookup f) (mA f)
 | .rng lo hi=>∃ t u v,h.get? a=some { cls:=.type "range",data:=.fields #[.int lo t,.int hi u,.int 1 v] }
 | .frz o u=>h.get? a=some o/\Zc9 H h a u
 | .tbl ps=>h.get? a=some { cls:=.none,data:=.fields ps }
 | .met f x=>h.get? a=some (Web (.ref f) (.ref x))
 | .ext φ=>φ h/\(∃ o,h.get? a=some o)/\∀ h1 h2:Vz,φ h1->(∀ o,h1.get? a=some o->h2.get? a=some o)->φ h2
def HOk (H:Hp) (h:Vz):Prop:=∀ a o,H a=some o->Zc9 P w H h a o
end
section
variable {P:Vh} {w:Vu} {H H':Hp} {h h':Vz} {a:Ve} {o:HO}
theorem Zc9.lt (x:Zc9 P w H h a o):a<h.objs.size:=by
 cases o with
 | lst xs=>obtain⟨_,_,_,_,e⟩:=x; exact Xf e
 | tup xs=>obtain⟨_,_,_,p⟩:=x; exact p.tup.lt
 | dK kvs=>obtain⟨_,_,_,_,o,_,_,e,_⟩:=x; exact Xf e
 | dT kvs=>obtain⟨_,_,_,_,o,_,_,e,_⟩:=x; exact Xf e
 | set S n=>obtain⟨o,_,_,_,e,_⟩:=x; exact Xf e
 | ins C dx fs=>obtain⟨_,_,_,e,_⟩:=x; exact Xf e
 | own y=>obtain⟨_,e⟩:=x; exact Xf e
 | xd fs=>obtain⟨_,⟨_,_,_,e,_⟩,_⟩:=x; exact Xf e
 | rng lo hi=>obtain⟨_,_,_,e⟩:=x; exact Xf e
 | frz ob u=>obtain⟨e,_⟩:=x; exact Xf e
 | tbl ps=>exact Xf (show h.get? a=some _ from x)
 | met f y=>exact Xf (show h.get? a=some _ from x)
 | ext φ=>obtain⟨_,⟨_,e⟩,_⟩:=x; exact Xf e
theorem Paired.mapP {α β:Type} {F G:α->β->Prop}:∀ {l₁:List α} {l₂:List β},Vj F l₁ l₂->(∀ a b,F a b->G a b)->Vj G l₁ l₂
 | _,_,.nil,_=>.nil
 | _,_,.cons r t,f=>.cons (f _ _ r) (Paired.mapP t f)
theorem Zc9.stay (x:Zc9 P w H h a o) (k:∀ b u,(b=a\/H b=some (.own a))->h.get? b=some u->h'.get? b=some u)
  (ho:∀ b,H b=some (.own a)->H' b=some (.own a)) (ht:∀ b xs,H b=some (.tup xs)->H' b=some (.tup xs)):Zc9 P w H' h' a o:=by
 induction o with
 | lst xs=>obtain⟨z,its,n,r,e⟩:=x; exact⟨z,its,n,r,k _ _ (.inl rfl) e⟩
 | tup xs=>obtain⟨z,its,r,ob,e,c⟩:=x; exact⟨z,its,r,ob,k _ _ (.inl rfl) e,c⟩
 | dK kvs=>obtain⟨z,y,vs,r,ob,es,ep,e,c⟩:=x; exact⟨z,y,vs,r,ob,es,ep,k _ _ (.inl rfl) e,c⟩
 | dT kvs =>
  obtain⟨z,y,xs,r,ob,es,ep,e,c⟩:=x
  exact⟨z,y,xs,Paired.mapP r fun p q z=>⟨z.1,ht _ _ z.2.1,z.2.2⟩,ob,es,ep,k _ _ (.inl rfl) e,c⟩
 | set S n=>obtain⟨ob,es,ep,t,e,c⟩:=x; exact⟨ob,es,ep,t,k _ _ (.inl rfl) e,c⟩
 | ins C dx fs =>
  obtain⟨d,z,ne,e,mA,⟨od,es,ep,e2,c⟩,r⟩:=x
  exact⟨ho _ d,z,ne,k _ _ (.inl rfl) e,mA,⟨od,es,ep,k _ _ (.inr d) e2,c⟩,r⟩
 | own y=>obtain⟨ob,e⟩:=x; exact⟨ob,k _ _ (.inl rfl) e⟩
 | xd fs=>obtain⟨mA,⟨od,es,ep,e,c⟩,r⟩:=x; exact⟨mA,⟨od,es,ep,k _ _ (.inl rfl) e,c⟩,r⟩
 | rng lo hi=>obtain⟨t,u,v,e⟩:=x; exact⟨t,u,v,k _ _ (.inl rfl) e⟩
 | frz ob u ih=>obtain⟨e,q⟩:=x; exact⟨k _ _ (.inl rfl) e,ih q⟩
 | tbl ps =>
  have e:h.get? a=some { cls:=.none,data:=.fields ps }:=x
  show h'.get? a=some { cls:=.none,data:=.fields ps }
  exact k a _ (.inl rfl) e
 | met f y =>
  have e:h.get? a=some (Web (.ref f) (.ref y)):=x
  show h'.get? a=some (Web (.ref f) (.ref y))
  exact k a _ (.inl rfl) e
 | ext φ=>obtain⟨p,⟨o,e⟩,st⟩:=x; exact⟨st _ _ p fun o q=>k _ _ (.inl rfl) q,⟨o,k _ _ (.inl rfl) e⟩,st⟩
theorem HOk.lt (x:HOk P w H h) (e:H a=some o):a<h.objs.size:=(x a o e).lt
theorem HOk.fresh (x:HOk P w H h) (e:h.objs.size<=a):H a=none:=by
 cases q:H a with
 | none=>rfl
 | some u=>exact absurd (Xj (x.lt q) e) (Wbg _)
theorem HOk.kept (x:HOk P w H h) (k:∀ b u,h.get? b=some u->h'.get? b=some u):HOk P w H h':=fun a o e =>
 (x a o e).stay (fun b u _ q=>k b u q) (fun _ q=>q) fun _ _ q=>q
theorem HOk.laid (x:HOk P w H h) (k:∀ b u,h.get? b=some u->h'.get? b=some u) (hp:h.objs.size<=a) (new:Zc9 P w (upd H a o) h' a o):HOk P w (upd H a o) h':=fun b u e=>by
 have hn:=x.fresh hp
 by_cases hb:b=a
 ·subst hb; rw[Zaq] at e; cases e; exact new
 ·rw[Zah hb] at e
  exact(x b u e).stay (fun c v _ q=>k c v q) (fun c q=>by rw[Zah (Zai q hn)]; exact q) fun c xs q=>by rw[Zah (Zai q hn)]; exact q
end
def Rd (H:Hp) (a:Ve) (u:HO):Prop:=H a=some u\/∃ o,H a=some (.frz o u)
theorem Rd.ok {P:Vh} {w:Vu} {H:Hp} {h:Vz} {a:Ve} {u:HO} (r:Rd H a u) (x:HOk P w H h):Zc9 P w H h a u:=by
 rcases r with r | ⟨o,r⟩
 ·exact x a u r
 ·obtain⟨_,q⟩:=x a _ r
  exact q
nonrec def Mut:Option HO->Prop
 | some (.lst _)=>True
 | some (.dK _)=>True
 | some (.dT _)=>True
 | some (.set _ _)=>True
 | some (.ins _ _ _)=>True
 | some (.ext _)=>True
 | _=>False
section
variable {P:Vh} {w:Vu} {H:Hp} {h h':Vz} {x e:Ve} {o':HO}
theorem HOk.write (ok:HOk P w H h) (mu:Mut (H x)) (he:e=x\/H e=some (.own x)) (k:∀ b u,b≠e->h.get? b=some u->h'.get? b=some u) (heo:∃ u,h'.get? e=some u)
  (new:Zc9 P w (upd H x o') h' x o'):HOk P w (upd H x o') h':=fun b u q=>by
 have nown:∀ c y,H c=some (.own y)->c≠x:=fun c y r z=>by subst z; rw[r] at mu; exact mu
 have ntup:∀ c xs,H c=some (.tup xs)->c≠x:=fun c xs r z=>by subst z; rw[r] at mu; exact mu
 by_cases hb:b=x
 ·subst hb; rw[Zaq] at q; cases q; exact new
 ·rw[Zah hb] at q
  by_cases hbe:b=e
  ·have q':H b=some (.own x):=by
    rcases he with z | z
    ·exact absurd (hbe.trans z) hb
    ·rw[hbe]; exact z
   rw[q] at q'; cases q'
   obtain⟨v,hv⟩:=heo
   exact⟨v,by rw[hbe]; exact hv⟩
  ·refine(ok b u q).stay (fun c v hc r=>k c v ?_ r) (fun c r=>by rw[Zah (nown c b r)]; exact r) fun c xs r=>by rw[Zah (ntup c xs r)]; exact r
   rcases hc with rfl | hc
   ·exact hbe
   ·rintro rfl
    rcases he with z | z
    ·exact nown c b hc z
    ·rw[hc] at z; cases z; exact hb rfl
end
structure Un (fs ex:List Ve) (H H':Hp) (h h':Vz):Prop where
 keep:∀ b o,h.get? b=some o->H b=none->b∉fs->b∉ex->h'.get? b=some o
 slot:∀ b o,h.get? b=some o->H b=none->b∈fs->b∉ex->∃ sl,h'.get? b=some { o with slots:=sl }
 free:∀ b o,h.get? b=some o->H b=none->b∉ex->H' b=none
 there:∀ b o,h.get? b=some o->b∉ex->∃ o',h'.get? b=some o'
 tups:∀ b xs,H b=some (.tup xs)->H' b=some (.tup xs)
 frzs:∀ b o u,H b=some (.frz o u)->H' b=some (.frz o u)
 tbls:∀ b ps,H b=some (.tbl ps)->∃ more,H' b=some (.tbl (ps++more))
section
variable {fs fs' ex ex':List Ve} {H H1 H2:Hp} {h h1 h2 h':Vz} {a x e:Ve} {o:HO}
theorem Un.any (u:Un fs ex H H1 h h1) {b:Ve} {ob:Obj} (q:h.get? b=some ob) (n:H b=none) (hx:b∉ex):∃ sl,h1.get? b=some { ob with slots:=sl }:=by
 by_cases hb:b∈fs
 ·exact u.slot b ob q n hb hx
 ·exact⟨ob.slots,u.keep b ob q n hb hx⟩
theorem Un.kept (k:∀ b u,h.get? b=some u->h'.get? b=some u):Un fs ex H H h h' :=
 ⟨fun b ob q _ _ _=>k b ob q,fun b ob q _ _ _=>⟨ob.slots,k b ob q⟩,fun _ _ _ n _=>n,fun b ob q _=>⟨ob,k b ob q⟩,fun _ _ q=>q,fun _ _ _ q=>q,fun _ ps q=>⟨#[],by rw[q]; simp⟩⟩
theorem Un.refl:Un fs ex H H h h:=Un.kept fun _ _ q=>q
theorem Un.laid (k:∀ b u,h.get? b=some u->h'.get? b=some u) (hp:h.objs.size<=a) (hn:H a=none):Un fs ex H (upd H a o) h h' where
 keep:=fun b u q _ _ _=>k b u q
 slot:=fun b u q _ _ _=>⟨u.slots,k b u q⟩
 free:=fun b u q n _=>by rw[Zah (Xi (Xj (Xf q) hp))]; exact n
 there:=fun b u q _=>⟨u,k b u q⟩
 tups:=fun b xs q=>by rw[Zah (Zai q hn)]; exact q
 frzs:=fun b u xs q=>by rw[Zah (Zai q hn)]; exact q
 tbls:=fun b ps q=>⟨#[],by rw[Zah (Zai q hn),q]; simp⟩
theorem Un.write (mu:Mut (H x)) (he:e=x\/H e=some (.own x)) (k:∀ b u,b≠e->h.get? b=some u->h'.get? b=some u) (heo:∃ u,h'.get? e=some u):Un fs ex H (upd H x o) h h':=by
 have hx:∀ b,H b=none->b≠x:=fun b n z=>by subst z; rw[n] at mu; exact mu
 have hb:∀ b,H b=none->b≠e:=fun b n z=>by
  subst z
  rcases he with r | r
  ·exact hx b n r
  ·rw[n] at r; cases r
 have hm:∀ b u,H b=some u->¬ Mut (some u)->b≠x:=fun b u q nm z=>by subst z; rw[q] at mu; exact nm mu
 refine⟨fun b u q n _ _=>k b u (hb b n) q,fun b u q n _ _=>⟨u.slots,k b u (hb b n) q⟩,fun b u q n _=>by rw[Zah (hx b n)]; exact n,fun b u q _=>?_,
  fun b xs q=>by rw[Zah (hm b _ q fun z=>z)]; exact q,fun b u xs q=>by rw[Zah (hm b _ q fun z=>z)]; exact q,fun b ps q=>⟨#[],by rw[Zah (hm b _ q fun z=>z),q]; simp⟩⟩
 by_cases hbe:b=e
 ·subst hbe; exact heo
 ·exact⟨u,k b u hbe q⟩
end
nonrec def trk (h:Vz) (H:Hp):List Ve:=(Wcp h.objs.size).filter fun a=>(H a).isSome
nonrec def Zue (h:Vz) (H:Hp):Vz:=PySem.W.hideAll h (trk h H)
theorem Ztk (h:Vz) (H:Hp):(Zue h H).objs.size=h.objs.size:=PySem.W.hideAll_size _ _
theorem Zv0 {h:Vz} {H:Hp} {b:Ve} {o:Obj} (e:h.get? b=some o) (n:H b=none):(Zue h H).get? b=some o :=
 PySem.W.hideAll_get _ e fun hm=>by
  have q:(H b).isSome=true:=(Wad.mp hm).2
  rw[n] at q; simp at q
theorem Zz1 {h:Vz} {H:Hp} {b:Ve} {o:Obj} (e:(Zue h H).get? b=some o):h.get? b=some o/\H b=none:=by
 have e':h.get? b=some o:=PySem.W.of_hideAll (trk h H) e
 refine⟨e',?_⟩
 cases q:H b with
 | none=>rfl
 | some x =>
  have hm:b∈trk h H:=Wad.mpr ⟨Wbi.mpr (Xf e'),by simp[q]⟩
  have z:(Zue h H).get? b=none:=PySem.W.hideAll_none (trk h H) hm
  rw[z] at e; cases e
structure Mod (K:Xb) (mg:Str->Option Vb) (base:Vz):Prop where
 kin:K.In base
 glob:base.Ns Vl mg
 blt:∃ mb,base.Ns builtinsNs mb/\∀ x:Str,x ≠ "__name__" -> mb x=Vq x
 nolimit:base.NoLimit
structure Cx where
 prog:Vh
 w:Vu
 K:Xb
 mg:Str->Option Vb
 base:Vz
 A:Vt
 N:List Str
 s₀:Vd
 H₀:Hp
 env:Env
 outer:List Env
 stack:List Env
 ex:List Ve
 fn:Str->Bool
 calm:Bool
 pn:List (Ve×Obj)
 xe:Vb->Vd->Prop
nonrec def frs (l:List Env):List Ve:=l.filterMap (·.frame)
nonrec abbrev Cx.fs (X:Cx):List Ve:=frs X.outer
def Vis (sc:Ubm) (x:Str):Prop:=sc.names.lookup x=some .local\/sc.names.lookup x=some .cell\/sc.names.lookup x=some .free
def Loc (sc:Ubm) (x:Str):Prop:=sc.names.lookup x=some .local\/sc.names.lookup x=some .cell
def Look (env:Env) (h:Vz) (m:Str->Option Vb) (x:Str) (u:Vb):Prop :=
 (env.kindOf x=some .local/\m x=some u)\/((env.kindOf x=some .cell\/env.kindOf x=some .free)/\∃ c,env.cells.lookup x=some c/\h.IsCell c (some u))
structure Cx.Ok (X:Cx):Prop where
 mod:Mod X.K X.mg X.base
 kind:X.env.scope.kind=.function
 glob:X.env.globals=Vl
 blt:X.env.builtins=builtinsNs
 above:X.s₀.heap.objs.size<=X.env.locals
 inj:∀ x y c,X.env.cells.lookup x=some c->X.env.cells.lookup y=some c->x=y
 has:∀ x,(X.env.kindOf x=some .cell\/X.env.kindOf x=some .free)->∃ c,X.env.cells.lookup x=some c
 cab:∀ x c,X.fn x=true->X.env.cells.lookup x=some c->X.s₀.heap.objs.size<=c
 hd:X.calm=true->X.A.handled=none
 frames:X.A.frames=some X.stack
 stk:X.stack=X.outer\/(X.stack=X.env::X.outer/\X.env.frame=some X.env.locals)
 exf:∀ b∈X.ex,b≠X.env.locals/\∀ x c,X.env.cells.lookup x=some c->c≠b
 bs:∀ b o,X.base.get? b=some o->X.s₀.heap.get? b=some o/\X.H₀ b=none
 bsz:X.base.objs.size<=X.s₀.heap.objs.size
 noex:∀ b o,X.base.get? b=some o->b∉X.ex
 exfs:∀ b∈X.ex,b∉X.fs
 funs:X.s₀.heap.FunFrames X.base X.outer
 frf:∀ b∈X.fs,X.H₀ b=none
structure Inv (X:Cx) (pins:List (Ve×Obj)) (σ:List (Option V)) (H:Hp) (s:Vd):Prop where
 ok:X.Ok
 os:s.os=X.s₀.os
 bare:Ucj s.gens
 base:Un X.fs X.ex X.H₀ H X.s₀.heap s.heap
 loc:∃ m,s.heap.Ns X.env.locals m/\∀ (i:Nat) (x:Str) (v:V),X.N[i]? = some x->σ[i]? = some (some v)->Vis X.env.scope x->∃ u,Zcg v u/\Look X.env s.heap m x u
 cell:∀ x c,X.env.cells.lookup x=some c->∃ v,s.heap.IsCell c v
 free:H X.env.locals=none
 freeC:∀ x c,X.env.cells.lookup x=some c->H c=none\/(X.fn x=false/\∃ o u,H c=some (.frz o u))
 pin:∀ p∈X.pn++pins,s.heap.get? p.1=some p.2/\H p.1=none/\p.1≠X.env.locals/\p.1∉X.fs/\∀ v,p.2.data≠.cell v
 hok:HOk X.prog X.w H s.heap
 len:σ.length=X.N.length
section
variable {X:Cx} {pins:List (Ve×Obj)} {σ:List (Option V)} {H H':Hp} {s:Vd} {h':Vz}
theorem Cx.Ok.nofr (ok:X.Ok) {b:Ve} {o:Obj} (e:X.base.get? b=some o):b∉X.fs:=fun hb=>by
 have:=(ok.funs.mem hb).1
 rw[e] at this; cases this
theorem Inv.bs (I:Inv X pins σ H s):∀ b o,X.base.get? b=some o->s.heap.get? b=some o/\H b=none:=fun b o e =>
 ⟨I.base.keep b o (I.ok.bs b o e).1 (I.ok.bs b o e).2 (I.ok.nofr e) (I.ok.noex b o e),I.base.free b o (I.ok.bs b o e).1 (I.ok.bs b o e).2 (I.ok.noex b o e)⟩
theorem Inv.bk (I:Inv X pins σ H s):∀ b o,X.base.get? b=some o->s.heap.get? b=some o:=fun b o e=>(I.bs b o e).1
theorem Inv.mod (I:Inv X pins σ H s):Mod X.K X.mg X.base:=I.ok.mod
theorem Inv.kIn (I:Inv X pins σ H s):X.K.In s.heap:=I.ok.mod.kin.keeps I.bk
theorem Inv.lt (I:Inv X pins σ H s):X.env.locals<s.heap.objs.size:=let ⟨_,hn,_⟩:=I.loc; hn.lt
theorem Inv.sz (I:Inv X pins σ H s):X.s₀.heap.objs.size<=s.heap.objs.size:=Waf I.ok.above (Wdu I.lt)
theorem Inv.nofs (I:Inv X pins σ H s) {a:Ve} (h:s.heap.objs.size<=a):a∉X.fs:=fun hb=>by
 obtain⟨_,o,ho,_⟩:=I.ok.funs.mem hb
 exact absurd (Xj (Xf ho) (Waf I.sz h)) (Wbg _)
theorem Inv.cne (I:Inv X pins σ H s):∀ x c,X.env.cells.lookup x=some c->c≠X.env.locals:=fun x c e z=>by
 obtain⟨v,o,ho,hd⟩:=I.cell x c e
 obtain⟨m,⟨o',es,ep,ho',hd',_⟩,_⟩:=I.loc
 rw[z,ho'] at ho; cases ho; rw[hd'] at hd; cases hd
theorem Inv.funs (I:Inv X pins σ H s):s.heap.FunFrames X.base X.outer:=by
 have all:∀ (l:List Env),(∀ b∈frs l,b∈X.fs)->X.s₀.heap.FunFrames X.base l->s.heap.FunFrames X.base l:=by
  intro l
  induction l with
  | nil=>intro _ _; trivial
  | cons env r ih =>
   intro hs hl
   obtain⟨hk,⟨L,o,hf,hn,ho,hd⟩,hr⟩:=hl
   have hL:L∈X.fs:=hs L (by unfold frs; rw[Wdm,hf]; exact Wcf)
   obtain⟨sl,e⟩:=I.base.slot L o ho (I.ok.frf L hL) hL fun z=>I.ok.exfs L z hL
   exact⟨hk,⟨L,_,hf,hn,e,hd⟩,ih (fun b hb=>hs b (by unfold frs; rw[Wdm,hf]; exact Wak _ hb)) hr⟩
 exact all X.outer (fun _ hb=>hb) I.ok.funs
theorem Inv.stack (I:Inv X pins σ H s):s.heap.FunFrames X.base X.stack:=by
 rcases I.ok.stk with e | ⟨e,hf⟩
 ·rw[e]; exact I.funs
 ·rw[e]
  obtain⟨m,hn,_⟩:=I.loc
  refine .cons (by rw[I.ok.kind]; decide) hf hn ?_ I.funs
  exact Heap.get?_none_of_le (Waf I.ok.bsz I.ok.above)
theorem Inv.stkSub (I:Inv X pins σ H s):∀ b∈frs X.stack,b∈X.env.locals::X.fs:=fun b hb=>by
 rcases I.ok.stk with e | ⟨e,hf⟩
 ·rw[e] at hb; exact Wak _ hb
 ·rw[e] at hb
  unfold frs at hb
  rw[Wdm,hf] at hb
  exact hb
theorem Inv.stkFree (I:Inv X pins σ H s):∀ b∈frs X.stack,H b=none:=fun b hb=>by
 rcases Xh.mp (I.stkSub b hb) with e | hb
 ·rw[e]; exact I.free
 ·obtain⟨_,o,ho,_⟩:=I.ok.funs.mem hb
  exact I.base.free b o ho (I.ok.frf b hb) fun z=>I.ok.exfs b z hb
theorem Inv.step {g':Array GenState} {t':Nat} {d':Drawn} {ch:List Ve} (I:Inv X pins σ H s)
  (hch:∀ b∈ch,(b∈X.ex\/X.s₀.heap.objs.size<=b)/\b≠X.env.locals/\(∀ x c,X.env.cells.lookup x=some c->c≠b)/\∀ p∈X.pn++pins,p.1≠b)
  (keep:∀ b o,b≠X.env.locals->b∉X.fs->b∉ch->s.heap.get? b=some o->H b=none->h'.get? b=some o)
  (slot:∀ b o,b≠X.env.locals->b∈X.fs->b∉ch->s.heap.get? b=some o->H b=none->∃ sl,h'.get? b=some { o with slots:=sl }) (free:∀ b o,b∉ch->s.heap.get? b=some o->H b=none->H' b=none)
  (there:∀ b o,b∉ch->s.heap.get? b=some o->∃ o',h'.get? b=some o')
  (tups:∀ b xs,H b=some (.tup xs)->H' b=some (.tup xs)) (frzs:∀ b o u,H b=some (.frz o u)->H' b=some (.frz o u)) (tbls:∀ b ps,H b=some (.tbl ps)->∃ more,H' b=some (.tbl (ps++more)))
  (ns:∀ m,s.heap.Ns X.env.locals m->h'.Ns X.env.locals m) (hok:HOk X.prog X.w H' h') (hg:Ucj g') :
  Inv X pins σ H' { s with heap:=h',gens:=g',drawn:=d',toks:=t' }:=by
 have neL:∀ b o,X.s₀.heap.get? b=some o->b≠X.env.locals:=fun b o e=>Xi (Xj (Xf e) I.ok.above)
 have neC:∀ b o,X.s₀.heap.get? b=some o->b∉X.ex->b∉ch:=fun b o e hx hb=>by
  rcases(hch b hb).1 with z | z
  ·exact hx z
  ·exact absurd (Xj (Xf e) z) (Wbg _)
 have cellK:∀ x c,X.env.cells.lookup x=some c->∀ v,s.heap.IsCell c v->h'.IsCell c v:=fun x c e v ⟨o,ho,hd⟩=>by
  have nch:c∉ch:=fun z=>(hch c z).2.2.1 x c e rfl
  rcases I.freeC x c e with fc | ⟨_,o2,u2,fc⟩
  ·by_cases hc:c∈X.fs
   ·obtain⟨sl,q⟩:=slot c o (I.cne x c e) hc nch ho fc
    exact⟨_,q,hd⟩
   ·exact⟨o,keep c o (I.cne x c e) hc nch ho fc,hd⟩
  ·have h1:=(I.hok c _ fc).1
   have h2:=(hok c _ (frzs c o2 u2 fc)).1
   rw[ho] at h1
   cases h1
   exact⟨o,h2,hd⟩
 refine⟨I.ok,I.os,hg,⟨fun b o e n hb hx=>?_,fun b o e n hb hx=>?_,fun b o e n hx=>?_,fun b o e hx=>?_,fun b xs e=>tups b xs (I.base.tups b xs e),fun b o xs e=>frzs b o xs (I.base.frzs b o xs e),fun b ps e=>?_⟩,?_,fun x c e=>?_,?_,fun x c e=>?_,fun p hp=>?_,hok,I.len⟩
 ·exact keep b o (neL b o e) hb (neC b o e hx) (I.base.keep b o e n hb hx) (I.base.free b o e n hx)
 ·obtain⟨sl,e1⟩:=I.base.slot b o e n hb hx
  obtain⟨sl',e2⟩:=slot b _ (neL b o e) hb (neC b o e hx) e1 (I.base.free b o e n hx)
  exact⟨sl',e2⟩
 ·obtain⟨o',e1⟩:=I.base.there b o e hx
  exact free b o' (neC b o e hx) e1 (I.base.free b o e n hx)
 ·obtain⟨o',e1⟩:=I.base.there b o e hx
  exact there b o' (neC b o e hx) e1
 ·obtain⟨m1,e1⟩:=I.base.tbls b ps e
  obtain⟨m2,e2⟩:=tbls b _ e1
  exact⟨m1++m2,by rw[e2,Array.append_assoc]⟩
 ·obtain⟨m,hn,hl⟩:=I.loc
  refine⟨m,ns m hn,fun i x v e1 e2 e3=>?_⟩
  obtain⟨u,r,l⟩:=hl i x v e1 e2 e3
  refine⟨u,r,?_⟩
  rcases l with l | ⟨k,c,e,z⟩
  ·exact .inl l
  ·exact .inr ⟨k,c,e,cellK x c e _ z⟩
 ·obtain⟨v,z⟩:=I.cell x c e
  exact⟨v,cellK x c e v z⟩
 ·obtain⟨m,⟨o,_,_,ho,_⟩,_⟩:=I.loc
  exact free _ o (fun z=>(hch _ z).2.1 rfl) ho I.free
 ·obtain⟨v,o,ho,hd⟩:=I.cell x c e
  rcases I.freeC x c e with fc | ⟨fn,o2,u2,fc⟩
  ·exact .inl (free c o (fun z=>(hch c z).2.2.1 x c e rfl) ho fc)
  ·exact .inr ⟨fn,o2,u2,frzs c o2 u2 fc⟩
 ·obtain⟨e,n,ne,nf,d⟩:=I.pin p hp
  have nch:p.1∉ch:=fun z=>(hch p.1 z).2.2.2 p hp rfl
  exact⟨keep p.1 p.2 ne nf nch e n,free p.1 p.2 nch e n,ne,nf,d⟩
theorem Inv.un {t':Nat} (I:Inv X pins σ H s) (u:Un X.fs [] H H' s.heap h') (hok:HOk X.prog X.w H' h'):Inv X pins σ H' { s with heap:=h',toks:=t' }:=by
 obtain⟨m,⟨o,es,ep,ho,r⟩,_⟩:=id I.loc
 obtain⟨sl,hL⟩:=u.any ho I.free (by simp)
 exact I.step (g':=s.gens) (d':=s.drawn) (ch:=[]) (fun _ z=>nomatch z) (fun b o _ hb _ e n=>u.keep b o e n hb (by simp)) (fun b o _ hb _ e n=>u.slot b o e n hb (by simp)) (fun b o _ e n=>u.free b o e n (by simp)) (fun b o _ e=>u.there b o e (by simp)) u.tups u.frzs u.tbls (fun m' hm=>by
  obtain⟨o',es',ep',ho',r'⟩:=hm
  rw[ho] at ho'; cases ho'
  exact⟨_,es',ep',hL,r'⟩) hok I.bare
theorem Inv.call {g':Array GenState} {t':Nat} {d':Drawn} {ch:List Ve} (I:Inv X pins σ H s) (u:Un (frs X.stack) ch H H' s.heap h') (hok:HOk X.prog X.w H' h') (hg:Ucj g')
  (hch:∀ b∈ch,(b∈X.ex\/X.s₀.heap.objs.size<=b)/\b≠X.env.locals/\(∀ x c,X.env.cells.lookup x=some c->c≠b)/\∀ p∈X.pn++pins,p.1≠b) :
  Inv X pins σ H' { s with heap:=h',gens:=g',drawn:=d',toks:=t' }:=by
 obtain⟨m,⟨o,es,ep,ho,r⟩,_⟩:=id I.loc
 obtain⟨sl,hL⟩:=u.any ho I.free fun z=>(hch _ z).2.1 rfl
 exact I.step (ch:=ch) hch (fun b o hL hb hc e n=>u.keep b o e n (fun z=>(Xh.mp (I.stkSub b z)).elim hL hb) hc) (fun b o _ _ hc e n=>u.any e n hc) (fun b o hc e n=>u.free b o e n hc) (fun b o hc e=>u.there b o e hc) u.tups u.frzs u.tbls (fun m' hm=>by
  obtain⟨o',es',ep',ho',r'⟩:=hm
  rw[ho] at ho'; cases ho'
  exact⟨_,es',ep',hL,r'⟩) hok hg
theorem Inv.turned {t':Nat} {it:Ve} (I:Inv X pins σ H s) (k:∀ b o,b≠it->s.heap.get? b=some o->h'.get? b=some o) (hn:H it=none) (hL:it≠X.env.locals)
  (h1:it∈X.ex\/X.s₀.heap.objs.size<=it) (h2:∀ x c,X.env.cells.lookup x=some c->c≠it) (h3:∀ p∈X.pn++pins,p.1≠it):Inv X pins σ H { s with heap:=h',toks:=t' }:=by
 have nit:∀ b u,H b=some u->b≠it:=fun b u e z=>by rw[z,hn] at e; cases e
 refine I.step (g':=s.gens) (d':=s.drawn) (ch:=[it]) (fun b hb=>?_) (fun b o _ _ hc e _=>k b o (fun z=>hc (by simp[z])) e) (fun b o _ _ hc e _=>⟨o.slots,k b o (fun z=>hc (by simp[z])) e⟩) (fun _ _ _ _ n=>n)
  (fun b o hc e=>⟨o,k b o (fun z=>hc (by simp[z])) e⟩) (fun _ _ e=>e) (fun _ _ _ e=>e) (fun b ps e=>⟨#[],by rw[e]; simp⟩) (fun m hm=>?_) (fun b u e=>?_) I.bare
 ·have e:b=it:=by simpa using hb
  subst e
  exact⟨h1,hL,h2,h3⟩
 ·obtain⟨o,es,ep,ho,r⟩:=hm
  exact⟨o,es,ep,k _ o (Uo hL) ho,r⟩
 ·refine(I.hok b u e).stay (fun c v hc q=>k c v ?_ q) (fun _ q=>q) fun _ _ q=>q
  rcases hc with z | z
  ·rw[z]; exact nit b u e
  ·exact nit c _ z
theorem Inv.tok (I:Inv X pins σ H s) (t:Nat):Inv X pins σ H { s with toks:=t }:=I.un (h':=s.heap) (t':=t) Un.refl I.hok
theorem Inv.kept {t':Nat} (I:Inv X pins σ H s) (k:∀ b u,s.heap.get? b=some u->h'.get? b=some u):Inv X pins σ H { s with heap:=h',toks:=t' }:=I.un (Un.kept k) (I.hok.kept k)
theorem Inv.laid {a:Ve} {o:HO} {t':Nat} (I:Inv X pins σ H s) (k:∀ b u,s.heap.get? b=some u->h'.get? b=some u) (hp:s.heap.objs.size<=a) (new:Zc9 X.prog X.w (upd H a o) h' a o) :
  Inv X pins σ (upd H a o) { s with heap:=h',toks:=t' }:=I.un (Un.laid k hp (I.hok.fresh hp)) (I.hok.laid k hp new)
theorem Inv.write {x e:Ve} {o:HO} {t':Nat} (I:Inv X pins σ H s) (mu:Mut (H x)) (he:e=x\/H e=some (.own x)) (k:∀ b u,b≠e->s.heap.get? b=some u->h'.get? b=some u) (heo:∃ u,h'.get? e=some u)
  (new:Zc9 X.prog X.w (upd H x o) h' x o):Inv X pins σ (upd H x o) { s with heap:=h',toks:=t' }:=I.un (Un.write mu he k heo) (I.hok.write mu he k heo new)
theorem Inv.pins_of {pins':List (Ve×Obj)} (I:Inv X pins σ H s) (h:∀ p∈pins',s.heap.get? p.1=some p.2/\H p.1=none/\p.1≠X.env.locals/\p.1∉X.fs/\∀ v,p.2.data≠.cell v):Inv X pins' σ H s :=
 ⟨I.ok,I.os,I.bare,I.base,I.loc,I.cell,I.free,I.freeC,fun p hp=>(Xv.mp hp).elim (fun z=>I.pin p (Wba _ z)) (h p),I.hok,I.len⟩
theorem Zow {N:List Str} (hN:N.Nodup) {i j:Nat} {x:Str} (a:N[i]? = some x) (b:N[j]? = some x):i=j:=by
 obtain⟨h1,e1⟩:=Xc.mp a
 obtain⟨h2,e2⟩:=Xc.mp b
 exact(Wfq hN).mp (e1.trans e2.symm)
theorem Zij {M:Model} {A:Vt} {E:Vb->Vd->Prop} {i:Nat} {x:Str} {v:V} {u:Vb} {Q:Unit->Vd->Prop} (I:Inv X pins σ H s) (hN:X.N.Nodup) (hi:X.N[i]? = some x) (hx:Loc X.env.scope x) (r:Zcg v u)
  (h:∀ s',Inv X pins (σ.set i (some v)) H s'->(∃ a,Xz a s.heap s'.heap/\(a=X.env.locals\/X.env.cells.lookup x=some a))->Q () s') (hf:X.fn x=true\/X.env.scope.names.lookup x=some .local:=by first | exact .inl rfl | exact .inr rfl | assumption):Vf M A (Uec X.env x u) Q E s:=by
 obtain⟨m,hn,hl⟩:=id I.loc
 have hcls:(X.env.scope.kind==.class||(X.env.scope.kind==.module&&X.env.locals != X.env.globals))=false:=by rw[I.ok.kind]; rfl
 have hiσ:i<σ.length:=by rw[I.len]; exact(Xc.mp hi).1
 have cne:=I.cne
 have tracked:∀ {a:Ve} {h':Vz},(∃ o,s.heap.get? a=some o/\H a=none)->Xz a s.heap h'->HOk X.prog X.w H h':=fun {a h'} ha hs b ob e=>by
  obtain⟨_,_,hfree⟩:=ha
  refine(I.hok b ob e).stay (fun c w' hc q=>(hs.2 c ?_).trans q) (fun _ q=>q) fun _ _ q=>q
  rintro rfl
  rcases hc with rfl | hc
  ·rw[hfree] at e; cases e
  ·rw[hfree] at hc; cases hc
 rcases hx with hk | hk
 ·refine wpAny_storeName_local hk hn (fun h' hn' hs=>?_) hcls
  obtain⟨oL,_,_,hoL,_⟩:=id hn
  refine h _ ⟨I.ok,I.os,I.bare,⟨fun b o e n hb hx=>?_,fun b o e n hb hx=>?_,I.base.free,fun b o e hx=>?_,I.base.tups,I.base.frzs,I.base.tbls⟩,⟨_,hn',fun j y v' e1 e2 e3=>?_⟩,fun y c e=>?_,I.free,I.freeC,fun p hp=>?_,tracked ⟨oL,hoL,I.free⟩ hs,by simpa using I.len⟩ ⟨_,hs,.inl rfl⟩
  ·exact(hs.2 b (Xi (Xj (Xf e) I.ok.above))).trans (I.base.keep b o e n hb hx)
  ·obtain⟨sl,e1⟩:=I.base.slot b o e n hb hx
   exact⟨sl,(hs.2 b (Xi (Xj (Xf e) I.ok.above))).trans e1⟩
  ·obtain⟨o',e1⟩:=I.base.there b o e hx
   exact⟨o',(hs.2 b (Xi (Xj (Xf e) I.ok.above))).trans e1⟩
  ·by_cases hj:j=i
   ·subst hj
    rw[hi] at e1; cases e1
    rw[Wbd hiσ] at e2
    cases e2
    exact⟨u,r,.inl ⟨hk,by simp⟩⟩
   ·rw[Wal (Uo hj)] at e2
    obtain⟨u',r',q⟩:=hl j y v' e1 e2 e3
    refine⟨u',r',?_⟩
    rcases q with ⟨k,e⟩ | ⟨k,c,e,z⟩
    ·refine .inl ⟨k,?_⟩
     have:y≠x:=fun e=>hj (Zow hN e1 (e ▸ hi))
     simp[this,e]
    ·exact .inr ⟨k,c,e,z.sameBut hs (cne y c e)⟩
  ·obtain⟨w',z⟩:=I.cell y c e
   exact⟨w',z.sameBut hs (cne y c e)⟩
  ·obtain⟨e,n,ne,nf,d⟩:=I.pin p hp
   exact⟨(hs.2 p.1 ne).trans e,n,ne,nf,d⟩
 ·have hfn:X.fn x=true:=by
   rcases hf with z | z
   ·exact z
   ·rw[z] at hk; cases hk
  obtain⟨c,hc⟩:=I.ok.has x (.inl hk)
  obtain⟨w',z⟩:=I.cell x c hc
  refine wpAny_storeName_cell I.ok.kind hk hc z (fun h' hc' hs=>?_)
  obtain⟨oc,hoc,hocd⟩:=id z
  refine h { s with heap:=h' } ⟨I.ok,I.os,I.bare,⟨fun b o e n hb hx=>?_,fun b o e n hb hx=>?_,I.base.free,fun b o e hx=>?_,I.base.tups,I.base.frzs,I.base.tbls⟩,⟨m,hn.sameBut hs (Uo (cne x c hc)),fun j y v' e1 e2 e3=>?_⟩,fun y c' e=>?_,I.free,I.freeC,fun p hp=>?_,tracked ⟨oc,hoc,(I.freeC x c hc).resolve_right (fun z=>by rw[hfn] at z; cases z.1)⟩ hs,by simpa using I.len⟩ ⟨c,hs,.inr hc⟩
  ·exact(hs.2 b (Xi (Xj (Xf e) (I.ok.cab x c hfn hc)))).trans (I.base.keep b o e n hb hx)
  ·obtain⟨sl,e1⟩:=I.base.slot b o e n hb hx
   exact⟨sl,(hs.2 b (Xi (Xj (Xf e) (I.ok.cab x c hfn hc)))).trans e1⟩
  ·obtain⟨o',e1⟩:=I.base.there b o e hx
   exact⟨o',(hs.2 b (Xi (Xj (Xf e) (I.ok.cab x c hfn hc)))).trans e1⟩
  ·by_cases hj:j=i
   ·subst hj
    rw[hi] at e1; cases e1
    rw[Wbd hiσ] at e2
    cases e2
    exact⟨u,r,.inr ⟨.inl hk,c,hc,hc'⟩⟩
   ·rw[Wal (Uo hj)] at e2
    obtain⟨u',r',q⟩:=hl j y v' e1 e2 e3
    refine⟨u',r',?_⟩
    rcases q with q | ⟨k,c',e,z'⟩
    ·exact .inl q
    ·refine .inr ⟨k,c',e,z'.sameBut hs ?_⟩
     rintro rfl
     exact hj (Zow hN e1 (I.ok.inj _ _ _ e hc ▸ hi))
  ·by_cases hcc:c'=c
   ·subst hcc; exact⟨_,hc'⟩
   ·obtain⟨w2,z2⟩:=I.cell y c' e
    exact⟨w2,z2.sameBut hs hcc⟩
  ·obtain⟨e,n,ne,nf,d⟩:=I.pin p hp
   refine⟨(hs.2 p.1 ?_).trans e,n,ne,nf,d⟩
   intro q
   rw[q,hoc] at e
   have q':oc=p.2:=Xy.inj e
   exact d w' (by rw[<- q']; exact hocd)
theorem Zlh {M:Model} {A:Vt} {E:Vb->Vd->Prop} {i:Nat} {x:Str} {v:V} {u:Vb} {Q:Unit->Vd->Prop} (I:Inv X pins σ H s) (hN:X.N.Nodup) (hi:X.N[i]? = some x) (hx:Loc X.env.scope x) (r:Zcg v u)
  (h:∀ s',Inv X pins (σ.set i (some v)) H s'->Q () s') (hf:X.fn x=true\/X.env.scope.names.lookup x=some .local:=by first | exact .inl rfl | exact .inr rfl | assumption):Vf M A (Uec X.env x u) Q E s :=
 Zij I hN hi hx r (fun s' I' _=>h s' I') hf
theorem Inv.call' {s':Vd} {ch:List Ve} (I:Inv X pins σ H s) (ho:s'.os=s.os) (u:Un (frs X.stack) ch H H' s.heap s'.heap) (hok:HOk X.prog X.w H' s'.heap) (hg:Ucj s'.gens)
  (hch:∀ b∈ch,(b∈X.ex\/X.s₀.heap.objs.size<=b)/\b≠X.env.locals/\(∀ x c,X.env.cells.lookup x=some c->c≠b)/\∀ p∈X.pn++pins,p.1≠b):Inv X pins σ H' s':=by
 obtain⟨h',g',d',t',o'⟩:=s'
 have e:o'=s.os:=ho
 subst e
 exact I.call (g':=g') (t':=t') (d':=d') u hok hg hch
end
nonrec abbrev XK:=Vb->Option Ve->Hp->Prop
nonrec abbrev St:=List (Option V)
nonrec abbrev VK:=V->Hp->Prop
nonrec abbrev TE:=St->Hp->VK->Prop
nonrec abbrev TT:=St->Hp->(Bool->Hp->Prop)->Prop
nonrec abbrev TA:=St->Hp->(List V->Hp->Prop)->Prop
structure Ends where
 nx:St->Hp->Prop
 rt:VK
 bk:St->Hp->Prop:=fun _ _=>False
 ct:St->Hp->Prop:=fun _ _=>False
nonrec abbrev TS:=Ends->St->Hp->Prop
def EP (X:Cx) (pins:List (Ve×Obj)) (σ:St) (Q:VK) (u:Vb) (s':Vd):Prop:=∃ v H',Inv X pins σ H' s'/\Zcg v u/\Q v H'
def TP (X:Cx) (pins:List (Ve×Obj)) (σ:St) (Q:Bool->Hp->Prop) (b:Bool) (s':Vd):Prop:=∃ H',Inv X pins σ H' s'/\Q b H'
def AP (X:Cx) (pins:List (Ve×Obj)) (σ:St) (Q:List V->Hp->Prop) (us:List Vb) (s':Vd):Prop:=∃ vs H',Inv X pins σ H' s'/\Zb8 vs us/\Q vs H'
def SP (X:Cx) (pins:List (Ve×Obj)) (D:Ends) (f:Flow) (s':Vd):Prop :=
 match f with
 | .next=>∃ σ' H',Inv X pins σ' H' s'/\D.nx σ' H'
 | .brk=>∃ σ' H',Inv X pins σ' H' s'/\D.bk σ' H'
 | .cont=>∃ σ' H',Inv X pins σ' H' s'/\D.ct σ' H'
 | .ret u=>∃ v σ' H',Inv X pins σ' H' s'/\Zcg v u/\D.rt v H'
def PE (X:Cx) (e:Vv) (t:TE):Prop :=
 ∀ (pins:List (Ve×Obj)) (s:Vd) (σ:St) (H:Hp) (Q:VK),Inv X pins σ H s->t σ H Q->Vf (Vm X.prog X.w) X.A (eval e X.env) (EP X pins σ Q) X.xe s
def PT (X:Cx) (e:Vv) (t:TT):Prop :=
 ∀ (pins:List (Ve×Obj)) (s:Vd) (σ:St) (H:Hp) (Q:Bool->Hp->Prop),Inv X pins σ H s->t σ H Q->Vf (Vm X.prog X.w) X.A (isTrue e X.env (eval e X.env)) (TP X pins σ Q) X.xe s
def PW (X:Cx) (e:Vv) (t:TT):Prop :=
 ∀ (whole:Sem Vb) (pins:List (Ve×Obj)) (s:Vd) (σ:St) (H:Hp) (Q:Bool->Hp->Prop),Inv X pins σ H s->t σ H Q->Vf (Vm X.prog X.w) X.A (isTrue e X.env whole) (TP X pins σ Q) X.xe s
def PA (X:Cx) (es:List Vv) (t:TA):Prop :=
 ∀ (pos:Pos) (pins:List (Ve×Obj)) (s:Vd) (σ:St) (H:Hp) (Q:List V->Hp->Prop),Inv X pins σ H s->t σ H Q->Vf (Vm X.prog X.w) X.A (spliced (Ual pos (Vg es X.env))) (AP X pins σ Q) X.xe s
def PS (X:Cx) (st:Uae) (t:TS):Prop :=
 ∀ (pins:List (Ve×Obj)) (s:Vd) (σ:St) (H:Hp) (D:Ends),Inv X pins σ H s->t D σ H->Vf (Vm X.prog X.w) X.A (exec st X.env) (SP X pins D) X.xe s
def PSs (X:Cx) (st:List Uae) (t:TS):Prop :=
 ∀ (pins:List (Ve×Obj)) (s:Vd) (σ:St) (H:Hp) (D:Ends),Inv X pins σ H s->t D σ H->Vf (Vm X.prog X.w) X.A (execs st X.env) (SP X pins D) X.xe s
theorem thn {α:Type} {t:Sem α} {Q Q':α->Vd->Prop} {M:Model} {A:Vt} {E:Vb->Vd->Prop} {s:Vd} (h:Vf M A t Q E s) (hQ:∀ a s,Q a s->Q' a s):Vf M A t Q' E s:=Uan h hQ fun _ _ x=>x
section
variable {X:Cx}
nonrec def Ya2 (i:Nat):TE:=fun σ H Q=>∃ v,σ[i]? = some (some v)/\Q v H
nonrec def tC (v:V):TE:=fun _ H Q=>Q v H
theorem Yc1 {i:Nat} {x:Str} {pos:Pos} (hN:X.N[i]? = some x) (hv:Vis X.env.scope x) (hd:(x==("__debug__" : Str))=false:=by decide) (hcd:(x==("__classdict__" : Str))=false:=by decide):PE X (.Name x pos) (Ya2 i):=by
 intro pins s σ H Q I h
 obtain⟨v,e,h⟩:=h
 obtain⟨m,hn,hl⟩:=I.loc
 obtain⟨u,r,l⟩:=hl i x v hN e hv
 have fin:EP X pins σ Q u s:=⟨v,H,I,r,h⟩
 rcases l with ⟨hk,hm⟩ | ⟨hk,c,hc,hcell⟩
 ·exact wpAny_Name (Ucx I.ok.kind hk hn hm fin) hd
 ·rcases hk with hk | hk
  ·exact wpAny_Name (Udh I.ok.kind hk hc hcell fin) hd
  ·exact wpAny_Name (wpAny_loadName_free I.ok.kind hk hc hcell fin hcd) hd
theorem Zx7 {i j pos}:PE X (.Constant (.int i) j pos) (tC (.int i)):=fun _ _ _ H _ I h=>wpAny_Constant_int ⟨.int i,H,I.tok _,⟨_,rfl⟩,h⟩
theorem pe_bl {b j pos}:PE X (.Constant (.bool b) j pos) (tC (.bl b)):=fun _ _ _ H _ I h=>Constant_bool ⟨.bl b,H,I,rfl,h⟩
theorem Ydr {j pos}:PE X (.Constant .none j pos) (tC .non):=fun _ _ _ H _ I h=>Constant_none ⟨.non,H,I,rfl,h⟩
theorem Ycv {x j pos}:PE X (.Constant (.str x) j pos) (tC (.str x)):=fun _ _ _ H _ I h=>Calls.Constant_str ⟨.str x,H,I.tok _,⟨_,rfl⟩,h⟩
def Gl (X:Cx) (x:Str):Prop:=X.env.kindOf x=some .globalImplicit
theorem Zts {E:Vb->Vd->Prop} {pins:List (Ve×Obj)} {s:Vd} {σ:St} {H:Hp} {x:Str} {u:Vb} {pos:Pos} {Q:Vb->Vd->Prop} (I:Inv X pins σ H s) (hg:Gl X x) (hm:X.mg x=some u) (h:Q u s)
  (hd:(x==("__debug__" : Str))=false:=by decide):Vf (Vm X.prog X.w) X.A (eval (.Name x pos) X.env) Q E s :=
 Tbe I.ok.kind hg (Calls.loadGlobal_global (by rw[I.ok.glob]; exact I.mod.glob.keeps I.bk) hm h) hd
theorem Zec {E:Vb->Vd->Prop} {pins:List (Ve×Obj)} {s:Vd} {σ:St} {H:Hp} {x:Str} {u:Vb} {pos:Pos} {Q:Vb->Vd->Prop} (I:Inv X pins σ H s) (hg:Gl X x) (hm:X.mg x=none) (hv:Vq x=some u) (h:Q u s)
  (hn:x ≠ "__name__" := by decide) (hd:(x==("__debug__" : Str))=false:=by decide):Vf (Vm X.prog X.w) X.A (eval (.Name x pos) X.env) Q E s:=by
 obtain⟨mb,h1,h2⟩:=I.mod.blt
 exact Tbe I.ok.kind hg (Calls.loadGlobal_builtin (by rw[I.ok.glob]; exact I.mod.glob.keeps I.bk) hm (by rw[I.ok.blt]; exact h1.keeps I.bk) ((h2 x hn).trans hv) h) hd
theorem Zvf {x:Str} {v:V} {u:Vb} {pos:Pos} (hg:Gl X x) (hm:X.mg x=some u) (r:Zcg v u) (hd:(x==("__debug__" : Str))=false:=by decide):PE X (.Name x pos) (tC v) :=
 fun _ _ _ H _ I h=>Zts I hg hm ⟨v,H,I,r,h⟩ hd
theorem Zzu {x:Str} {v:V} {u:Vb} {pos:Pos} (hg:Gl X x) (hm:X.mg x=none) (hv:Vq x=some u) (r:Zcg v u) (hn:x ≠ "__name__" := by decide) (hd:(x==("__debug__" : Str))=false:=by decide):PE X (.Name x pos) (tC v) :=
 fun _ _ _ H _ I h=>Zec I hg hm hv ⟨v,H,I,r,h⟩ hn hd
variable {a b:Vv} {ta tb:TE} {pos:Pos}
variable {tA tB':TT} {rest:List Vv}
nonrec def tAnd (t u:TT):TT:=fun σ H Q=>t σ H fun c H1=>if c=true then u σ H1 Q else Q false H1
nonrec def tOr (t u:TT):TT:=fun σ H Q=>t σ H fun c H1=>if c=true then Q true H1 else u σ H1 Q
nonrec def tNot (t:TT):TT:=fun σ H Q=>t σ H fun c H1=>Q (!c) H1
theorem Zzf (ha:PT X a tA):PW X (.BoolOp .And [a] pos) tA:=by
 intro wh pins s σ H Q I h
 refine isTrue_and (thn (ha pins s σ H Q I h) fun c s1 e=>?_)
 cases c with
 | true=>exact isTrue_and_nil e
 | false=>exact e
theorem Ycz (ha:PT X a tA):PW X (.BoolOp .Or [a] pos) tA:=by
 intro wh pins s σ H Q I h
 refine isTrue_or (thn (ha pins s σ H Q I h) fun c s1 e=>?_)
 cases c with
 | false=>exact isTrue_or_nil e
 | true=>exact e
theorem Yds (ha:PT X a tA) (hb:PW X (.BoolOp .And (b::rest) pos) tB'):PW X (.BoolOp .And (a::b::rest) pos) (tAnd tA tB'):=by
 intro wh pins s σ H Q I h
 refine isTrue_and (thn (ha pins s σ H _ I h) fun c s1 zz=>?_)
 obtain⟨H1,I1,q1⟩:=zz
 cases c with
 | true=>exact hb wh pins s1 σ H1 Q I1 q1
 | false=>exact⟨H1,I1,q1⟩
theorem pw_or (ha:PT X a tA) (hb:PW X (.BoolOp .Or (b::rest) pos) tB'):PW X (.BoolOp .Or (a::b::rest) pos) (tOr tA tB'):=by
 intro wh pins s σ H Q I h
 refine isTrue_or (thn (ha pins s σ H _ I h) fun c s1 zz=>?_)
 obtain⟨H1,I1,q1⟩:=zz
 cases c with
 | true=>exact⟨H1,I1,q1⟩
 | false=>exact hb wh pins s1 σ H1 Q I1 q1
theorem Ya0 (ha:PT X a tA):PT X (.UnaryOp .Not a pos) (tNot tA):=by
 intro pins s σ H Q I h
 exact isTrue_not (ha pins s σ H (fun c H1=>Q (!c) H1) I h)
nonrec def tAndV (ta tb:TE):TE:=fun σ H Q=>ta σ H fun x H1=>∃ c,x=.bl c/\if c=true then tb σ H1 Q else Q (.bl false) H1
nonrec def tNotV (ta:TE):TE:=fun σ H Q=>ta σ H fun x H1=>∃ c,x=.bl c/\Q (.bl (!c)) H1
theorem Yca {op} {t:TE} (h:PE X a t):PE X (.BoolOp op [a] pos) t:=fun pins s σ H Q I hw=>BoolOp_one (h pins s σ H Q I hw)
theorem Ybb (ha:PE X a ta) (hb:PE X (.BoolOp .And (b::rest) pos) tb):PE X (.BoolOp .And (a::b::rest) pos) (tAndV ta tb):=by
 intro pins s σ H Q I h
 refine BoolOp_and (thn (ha pins s σ H _ I h) fun v s1 zz=>?_)
 obtain⟨x,H1,I1,r1,q1⟩:=zz
 obtain⟨c,rfl,q1⟩:=q1
 cases r1
 refine Uai ?_
 cases c with
 | true=>exact hb pins s1 σ H1 Q I1 q1
 | false=>exact⟨.bl false,H1,I1,rfl,q1⟩
theorem Yb5 (ha:PE X a ta):PE X (.UnaryOp .Not a pos) (tNotV ta):=by
 intro pins s σ H Q I h
 refine UnaryOp_ (thn (ha pins s σ H _ I h) fun v s1 zz=>?_)
 obtain⟨x,H1,I1,r1,q1⟩:=zz
 obtain⟨c,rfl,q1⟩:=q1
 cases r1
 exact not_of (Uai ⟨.bl (!c),H1,I1,rfl,q1⟩)
nonrec def tIf (t:TT) (ta tb:TE):TE:=fun σ H Q=>t σ H fun c H1=>if c=true then ta σ H1 Q else tb σ H1 Q
theorem Zwl {c:Vv} (hc:PT X c tA) (ha:PE X a ta) (hb:PE X b tb):PE X (.IfExp c a b pos) (tIf tA ta tb):=by
 intro pins s σ H Q I h
 refine wpAny_IfExp (thn (hc pins s σ H _ I h) fun d s1 zz=>?_)
 obtain⟨H1,I1,q1⟩:=zz
 cases d with
 | true=>exact ha pins s1 σ H1 Q I1 q1
 | false=>exact hb pins s1 σ H1 Q I1 q1
end
def SqL (K:Xb) (H:Hp) (a:Ve) (xs:List V):Prop :=
 Rd H a (.lst xs) \/
  ∃ (o:Obj) (its:Array Vb) (n:Nat),K.lookup a=some o/\o.cls=.type "list" /\ o.dict=none/\o.data=.seq its n/\its.size<=sizeLine/\Zb8 xs its.toList
def SqT (K:Xb) (H:Hp) (a:Ve) (xs:List V):Prop :=
 Rd H a (.tup xs) \/
  ∃ (o:Obj) (its:Array Vb) (n:Nat),K.lookup a=some o/\o.cls=.type "tuple" /\ o.data=.seq its n/\its.size<=sizeLine/\Zb8 xs its.toList/\o.dict=none
nonrec def absV:Vb->Option V
 | .none=>some .non
 | .bool b=>some (.bl b)
 | .int i _=>some (.int i)
 | .str x _=>some (.str x)
 | .bytes b _=>some (.byt b)
 | .float b _=>some (.flt b)
 | .ref a=>some (.ref a)
 | .type n=>some (.ty n)
 | _=>none
theorem Zcg.abs {x:V} {u:Vb} (r:Zcg x u):absV u=some x:=by
 cases x with
 | non=>cases r; rfl
 | bl _=>cases r; rfl
 | int _=>obtain⟨t,rfl⟩:=r; rfl
 | str _=>obtain⟨t,rfl⟩:=r; rfl
 | byt _=>obtain⟨t,rfl⟩:=r; rfl
 | flt _=>obtain⟨t,rfl⟩:=r; rfl
 | ref _=>cases r; rfl
 | ty _=>cases r; rfl
theorem Zcg.inj {x y:V} {u:Vb} (r:Zcg x u) (q:Zcg y u):x=y:=Xy.inj (r.abs.symm.trans q.abs)
theorem Zb8.inj:∀ {xs ys:List V} {us:List Vb},Zb8 xs us->Zb8 ys us->xs=ys:=by
 intro xs ys us h
 induction h generalizing ys with
 | nil=>intro h'; cases h'; rfl
 | cons r t ih =>
  intro h'
  cases h' with
  | cons r' t'=>rw[r.inj r',ih t']
section
variable {X:Cx} {pins:List (Ve×Obj)} {σ:St} {H:Hp} {s:Vd} {a:Ve} {xs ys:List V}
theorem SqL.of {K:Xb} (h:H a=some (.lst xs)):SqL K H a xs:=.inl (.inl h)
theorem SqT.of {K:Xb} (h:H a=some (.tup xs)):SqT K H a xs:=.inl (.inl h)
theorem Inv.list (I:Inv X pins σ H s) (h:SqL X.K H a xs):∃ its:List Vb,Zb8 xs its/\PlainL s.heap a its.toArray/\xs.length<=sizeLine:=by
 rcases h with h | ⟨o,its,n,hk,hc,hd,hs,hz,r⟩
 ·obtain⟨z,its,n,r,e⟩:=h.ok I.hok
  exact⟨its,r,⟨_,n,e,rfl,rfl,rfl⟩,z⟩
 ·refine⟨its.toList,r,⟨o,n,I.kIn a o hk,hc,hd,by simpa using hs⟩,?_⟩
  have e:=r.length
  simp only[Wdn] at e
  omega
theorem Inv.tuple (I:Inv X pins σ H s) (h:SqT X.K H a xs):∃ its:List Vb,Zb8 xs its/\Uem s.heap a its.toArray/\xs.length<=sizeLine:=by
 rcases h with h | ⟨o,its,n,hk,hc,hs,hz,r,_⟩
 ·obtain⟨z,its,r,p⟩:=h.ok I.hok
  exact⟨its,r,p.tup,z⟩
 ·refine⟨its.toList,r,⟨o,I.kIn a o hk,hc,n,by simpa using hs⟩,?_⟩
  have e:=r.length
  simp only[Wdn] at e
  omega
theorem Inv.list_inj (I:Inv X pins σ H s) (h:SqL X.K H a xs) (h':SqL X.K H a ys):xs=ys:=by
 obtain⟨its,r,⟨o,n,e,_,_,d⟩,_⟩:=I.list h
 obtain⟨its',r',⟨o',n',e',_,_,d'⟩,_⟩:=I.list h'
 rw[e] at e'; cases e'
 rw[d] at d'
 injection d' with d1 _
 have:its=its':=by simpa using congrArg Array.toList d1
 subst this
 exact r.inj r'
theorem Inv.tuple_inj (I:Inv X pins σ H s) (h:SqT X.K H a xs) (h':SqT X.K H a ys):xs=ys:=by
 obtain⟨its,r,⟨o,e,_,n,d⟩,_⟩:=I.tuple h
 obtain⟨its',r',⟨o',e',_,n',d'⟩,_⟩:=I.tuple h'
 rw[e] at e'; cases e'
 rw[d] at d'
 injection d' with d1 _
 have:its=its':=by simpa using congrArg Array.toList d1
 subst this
 exact r.inj r'
end
nonrec abbrev Cx.wish (X:Cx) (E:Vb->Vd->Prop):Cx:={ X with xe:=E }
nonrec abbrev Cx.nox (X:Cx):Cx:=X.wish fun _ _=>False
theorem Cx.Ok.wish {X:Cx} (ok:X.Ok) (E:Vb->Vd->Prop):(X.wish E).Ok :=
 ⟨ok.mod,ok.kind,ok.glob,ok.blt,ok.above,ok.inj,ok.has,ok.cab,ok.hd,ok.frames,ok.stk,ok.exf,ok.bs,ok.bsz,ok.noex,ok.exfs,ok.funs,ok.frf⟩
theorem Cx.Ok.unwish {X:Cx} {E:Vb->Vd->Prop} (ok:(X.wish E).Ok):X.Ok :=
 ⟨ok.mod,ok.kind,ok.glob,ok.blt,ok.above,ok.inj,ok.has,ok.cab,ok.hd,ok.frames,ok.stk,ok.exf,ok.bs,ok.bsz,ok.noex,ok.exfs,ok.funs,ok.frf⟩
section
variable {X:Cx} {pins:List (Ve×Obj)} {σ:St} {H:Hp} {s:Vd} {E:Vb->Vd->Prop}
theorem Inv.wish (I:Inv X pins σ H s) (E:Vb->Vd->Prop):Inv (X.wish E) pins σ H s:=⟨I.ok.wish E,I.os,I.bare,I.base,I.loc,I.cell,I.free,I.freeC,I.pin,I.hok,I.len⟩
theorem Inv.unwish (I:Inv (X.wish E) pins σ H s):Inv X pins σ H s:=⟨I.ok.unwish,I.os,I.bare,I.base,I.loc,I.cell,I.free,I.freeC,I.pin,I.hok,I.len⟩
theorem SP.unwish {D:Ends} {f:Flow} {s':Vd} (h:SP (X.wish E) pins D f s'):SP X pins D f s':=by
 cases f with
 | next=>obtain⟨σ',H',I,q⟩:=h; exact⟨σ',H',I.unwish,q⟩
 | brk=>obtain⟨σ',H',I,q⟩:=h; exact⟨σ',H',I.unwish,q⟩
 | cont=>obtain⟨σ',H',I,q⟩:=h; exact⟨σ',H',I.unwish,q⟩
 | ret u=>obtain⟨v,σ',H',I,r,q⟩:=h; exact⟨v,σ',H',I.unwish,r,q⟩
theorem PSs.nox {st:List Uae} {t:TS} (h:PSs X.nox st t):PSs X st t:=fun pins s σ H D I hw =>
 Uan (h pins s σ H D (I.wish _) hw) (fun _ _ q=>q.unwish) fun _ _ z=>Ul z
end
section
variable {X:Cx} {st:Uae} {rest:List Uae} {t u:TS} {e:Vv} {te:TE} {pos:Pos}
nonrec def tNext:TS:=fun D σ H=>D.nx σ H
nonrec def tSeq (t u:TS):TS:=fun D σ H=>t { D with nx:=u D } σ H
theorem Yak:PSs X [] tNext:=fun _ _ σ H _ I h=>Uck ⟨σ,H,I,h⟩
theorem Zw8 (h1:PS X st t) (h2:PSs X rest u):PSs X (st::rest) (tSeq t u):=by
 intro pins s σ H D I h
 refine wpAny_execs_cons (thn (h1 pins s σ H { D with nx:=u D } I h) fun f s1 q=>?_)
 cases f with
 | next =>
  obtain⟨σ',H',I',q⟩:=q
  exact h2 pins s1 σ' H' D I' q
 | ret v=>exact q
 | brk=>exact q
 | cont=>exact q
theorem Inv.quiet {pins:List (Ve×Obj)} {σ:St} {H:Hp} {s:Vd} (I:Inv X pins σ H s):interactive X.env=false:=by simp[interactive,I.ok.kind]
nonrec def tDrop (te:TE):TS:=fun D σ H=>te σ H fun _ H1=>D.nx σ H1
theorem Zyt (he:PE X e te) (hs:Ucl e none pos.line X.env=pure false:=by rfl):PS X (.Expr e pos) (tDrop te):=by
 intro pins s σ H D I h
 exact wpAny_Expr_any (thn (he pins s σ H _ I h) fun v s1 ⟨x,H1,I1,r1,q1⟩=>⟨σ,H1,I1,q1⟩) I.quiet hs
nonrec def tRet (te:TE):TS:=fun D σ H=>te σ H D.rt
theorem Ycu (he:PE X e te):PS X (.Return (some e) pos) (tRet te):=by
 intro pins s σ H D I h
 exact wpAny_Return_some (thn (he pins s σ H _ I h) fun v s1 ⟨x,H1,I1,r1,q1⟩=>⟨x,σ,H1,I1,r1,q1⟩)
nonrec def tRetN:TS:=fun D _ H=>D.rt .non H
theorem Zzt:PS X (.Return none pos) tRetN:=fun _ _ σ H _ I h=>wpAny_Return_none ⟨.non,σ,H,I,rfl,h⟩
nonrec def tIfS (c:TT) (t u:TS):TS:=fun D σ H=>c σ H fun b H1=>if b=true then t D σ H1 else u D σ H1
theorem ps_if {c:Vv} {a b:List Uae} {tc:TT} (hc:PT X c tc) (ha:PSs X a t) (hb:PSs X b u):PS X (.If c a b pos) (tIfS tc t u):=by
 intro pins s σ H D I h
 refine wpAny_If (thn (hc pins s σ H _ I h) fun d s1 zz=>?_)
 obtain⟨H1,I1,q1⟩:=zz
 cases d with
 | true=>exact ha pins s1 σ H1 D I1 q1
 | false=>exact hb pins s1 σ H1 D I1 q1
end
nonrec abbrev TG:=V->St->Hp->(St->Hp->Prop)->Prop
nonrec abbrev TGs:=List V->St->Hp->(St->Hp->Prop)->Prop
def PG (X:Cx) (target:Vv) (t:TG):Prop :=
 ∀ (pins:List (Ve×Obj)) (s:Vd) (σ:St) (H:Hp) (v:V) (u:Vb) (Q:St->Hp->Prop),Inv X pins σ H s->Zcg v u->t v σ H Q ->
  Vf (Vm X.prog X.w) X.A (Udd target X.env u) (fun _ s'=>∃ σ' H',Inv X pins σ' H' s'/\Q σ' H') X.xe s
def PGs (X:Cx) (ts:List Vv) (t:TGs):Prop :=
 ∀ (pins:List (Ve×Obj)) (s:Vd) (σ:St) (H:Hp) (vs:List V) (us:List Vb) (Q:St->Hp->Prop),Inv X pins σ H s->Zb8 vs us->t vs σ H Q ->
  Vf (Vm X.prog X.w) X.A (assignInOrder ((Uao ts X.env).map (·.2)) us) (fun _ s'=>∃ σ' H',Inv X pins σ' H' s'/\Q σ' H') X.xe s
nonrec abbrev TSet:=V->V->V->Hp->(Hp->Prop)->Prop
def PSet (X:Cx) (t:TSet):Prop :=
 ∀ (pins:List (Ve×Obj)) (s:Vd) (σ:St) (H:Hp) (o i v:V) (ov iv u:Vb) (Q:Hp->Prop),Inv X pins σ H s->Zcg o ov->Zcg i iv->Zcg v u->t o i v H Q ->
  Vf (Vm X.prog X.w) X.A (setItem ov iv u) (fun _ s'=>∃ H',Inv X pins σ H' s'/\Q H') X.xe s
nonrec abbrev TIp:=V->V->Hp->VK->Prop
def PIp (X:Cx) (op:Udz) (t:TIp):Prop :=
 ∀ (pins:List (Ve×Obj)) (s:Vd) (σ:St) (H:Hp) (x y:V) (v u:Vb) (Q:VK),Inv X pins σ H s->Zcg x v->Zcg y u->t x y H Q ->
  Vf (Vm X.prog X.w) X.A (inplaceOp op v u) (EP X pins σ Q) X.xe s
section
variable {X:Cx} {pos:Pos}
nonrec def Zk2 (i:Nat):TG:=fun v σ H Q=>Q (σ.set i (some v)) H
theorem Zlb {i:Nat} {x:Str} (hN:X.N.Nodup) (hi:X.N[i]? = some x) (hx:Loc X.env.scope x) (hf:X.fn x=true\/X.env.scope.names.lookup x=some .local:=by first | exact .inl rfl | exact .inr rfl | assumption):PG X (.Name x pos) (Zk2 i):=by
 intro pins s σ H v u Q I r h
 exact wpAny_assign_Name (Zlh I hN hi hx r (fun s' I'=>⟨_,H,I',h⟩) hf)
nonrec def gNil:TGs:=fun vs σ H Q=>vs=[]/\Q σ H
nonrec def Zub (t:TG) (u:TGs):TGs:=fun vs σ H Q=>∃ v r,vs=v::r/\t v σ H fun σ' H'=>u r σ' H' Q
theorem Ztd:PGs X [] gNil:=by
 intro pins s σ H vs us Q I r h
 obtain⟨e,h⟩:=h
 subst e
 cases r
 exact assignInOrder_nil ⟨σ,H,I,h⟩
theorem Zkz {e:Vv} {es:List Vv} {t:TG} {u:TGs} (h1:PG X e t) (h2:PGs X es u)
  (hs:(Uao (e::es) X.env).map (·.2)=Udd e X.env::(Uao es X.env).map (·.2):=by rfl):PGs X (e::es) (Zub t u):=by
 intro pins s σ H vs us Q I r h
 obtain⟨v,vr,e1,h⟩:=h
 subst e1
 cases r with
 | cons r rr =>
  rw[hs]
  refine assignInOrder_cons (thn (h1 pins s σ H _ _ _ I r h) fun _ s1 zz=>?_)
  obtain⟨σ1,H1,I1,q1⟩:=zz
  exact h2 pins s1 σ1 H1 _ _ Q I1 rr q1
nonrec def gTup (K:Xb) (n:Nat) (t:TGs):TG:=fun v σ H Q=>∃ a xs,v=.ref a/\SqT K H a xs/\xs.length=n/\t xs σ H Q
theorem Zxn {es:List Vv} {k:Nat} {t:TGs} {n:Nat} (hc:X.calm=true) (h:PGs X es t)
  (hn:(Uao es X.env).length=n:=by rfl) (hst:(Uao es X.env).findIdx? (·.1)=none:=by rfl):PG X (.Tuple es k pos) (gTup X.K n t):=by
 intro pins s σ H v u Q I r hw
 obtain⟨a,xs,e1,hq,hl,hw⟩:=hw
 subst e1
 cases r
 obtain⟨its,rv,ht,hz⟩:=I.tuple hq
 refine assign_Tuple_tuple (I.ok.hd hc) ht (by simp[hn,<- hl,rv.length]) hst fun h' hx=>?_
 have I1:Inv X pins σ H { s with heap:=h' }:=I.kept (t':=s.toks) fun b o e=>hx b o (Xi (Xf e)) e
 exact h pins _ σ H xs _ Q I1 (by simpa using rv) hw
nonrec def gSub (to ti:TE) (t:TSet):TG:=fun v σ H Q=>to σ H fun o H1=>ti σ H1 fun i H2=>t o i v H2 fun H3=>Q σ H3
theorem Ycg {o i:Vv} {to ti:TE} {t:TSet} (ho:PE X o to) (hi:PE X i ti) (hs:PSet X t)
  (ha:∀ v,Udd (.Subscript o i pos) X.env v=(do
   let ov<-Udi [v] (eval o X.env)
   let iv<-Udi [v,ov] (eval i X.env)
   standAt pos
   Udi [v,ov,iv] (setItem ov iv v)
   release [v,ov,iv] []):=by intro _; rfl):PG X (.Subscript o i pos) (gSub to ti t):=by
 intro pins s σ H v u Q I r h
 rw[ha]
 refine Va (Vw (thn (ho pins s σ H _ I h) fun ov s1 zz=>?_))
 obtain⟨x,H1,I1,r1,q1⟩:=zz
 refine Va (Vw (thn (hi pins s1 σ H1 _ I1 q1) fun iv s2 zz=>?_))
 obtain⟨y,H2,I2,r2,q2⟩:=zz
 refine Va (Ubn (Va (Vw (thn (hs pins s2 σ H2 x y v ov iv u _ I2 r1 r2 r q2) fun _ s3 zz=>?_))))
 obtain⟨H3,I3,q3⟩:=zz
 exact wpAny_release ⟨σ,H3,I3,q3⟩
nonrec def tAsg (te:TE) (g:TG):TS:=fun D σ H=>te σ H fun x H1=>g x σ H1 D.nx
theorem Yci {tg e:Vv} {te:TE} {g:TG} (he:PE X e te) (hg:PG X tg g) (hs:swapsWithSole [tg] e pos.line X.env=pure false:=by rfl) (hw:swappedStores [tg] e X.env=pure none:=by rfl)
  (h1:(Uao [tg] X.env).map (·.2)=[Udd tg X.env]:=by rfl):PS X (.Assign [tg] e pos) (tAsg te g):=by
 intro pins s σ H D I h
 refine wpAny_Assign_stores (thn (he pins s σ H _ I h) fun v s1 ⟨x,H1,I1,r1,q1⟩=>?_) hs hw
 rw[h1]
 exact thn (hg pins s1 σ H1 x v _ I1 r1 q1) fun _ s2 q=>q
theorem Ya3 {i:Nat} {x:Str} {e:Vv} {te:TE} {pos':Pos} (hN:X.N.Nodup) (hi:X.N[i]? = some x) (hx:Loc X.env.scope x) (he:PE X e te) (hs:Ucl e (some (.Name x pos')) pos.line X.env=pure false:=by rfl) (hf:X.fn x=true\/X.env.scope.names.lookup x=some .local:=by first | exact .inl rfl | exact .inr rfl | assumption) :
  PS X (.Assign [.Name x pos'] e pos) (tAsg te (Zk2 i)):=by
 intro pins s σ H D I h
 refine wpAny_Assign_Name (thn (he pins s σ H _ I h) fun v s1 ⟨y,H1,I1,r1,q1⟩=>?_) hs
 exact Zlh I1 hN hi hx r1 (fun s2 I2=>⟨_,H1,I2,q1⟩) hf
nonrec def tAug (i:Nat) (te:TE) (ti:TIp):TS:=fun D σ H=>∃ x,σ[i]? = some (some x)/\te σ H fun y H1=>ti x y H1 fun z H2=>D.nx (σ.set i (some z)) H2
theorem Ydl {i:Nat} {x:Str} {e:Vv} {te:TE} {op:Udz} {ti:TIp} {pos':Pos} (hN:X.N.Nodup) (hi:X.N[i]? = some x) (hx:Loc X.env.scope x) (he:PE X e te) (ho:PIp X op ti) (hf:X.fn x=true\/X.env.scope.names.lookup x=some .local:=by first | exact .inl rfl | exact .inr rfl | assumption) :
  PS X (.AugAssign (.Name x pos') op e pos) (tAug i te ti):=by
 intro pins s σ H D I h
 obtain⟨v,e1,h⟩:=h
 obtain⟨m,hn,hl⟩:=I.loc
 have vis:Vis X.env.scope x:=by rcases hx with k | k; exact .inl k; exact .inr (.inl k)
 obtain⟨u,r,l⟩:=hl i x v hi e1 vis
 refine wpAny_AugAssign_Name ?_
 have go:Vf (Vm X.prog X.w) X.A (eval e X.env) (fun w s₂=>Vf (Vm X.prog X.w) X.A (inplaceOp op u w) (fun r s₃=>Vf (Vm X.prog X.w) X.A (Uec X.env x r) (fun _=>SP X pins D .next) X.xe s₃) X.xe s₂) X.xe s:=by
  refine thn (he pins s σ H _ I h) fun w s1 zz=>?_
  obtain⟨y,H1,I1,r1,q1⟩:=zz
  refine thn (ho pins s1 σ H1 v y u w _ I1 r r1 q1) fun z s2 zz=>?_
  obtain⟨zv,H2,I2,r2,q2⟩:=zz
  exact Zlh I2 hN hi hx r2 (fun s3 I3=>⟨_,H2,I3,q2⟩) hf
 rcases l with ⟨hk,hm⟩ | ⟨hk,c,hc,hcell⟩
 ·exact Ucx I.ok.kind hk hn hm go
 ·rcases hk with hk | hk
  ·exact Udh I.ok.kind hk hc hcell go
  ·rcases hx with k | k
   ·have:X.env.scope.names.lookup x=some .free:=hk
    rw[k] at this; cases this
   ·have:X.env.scope.names.lookup x=some .free:=hk
    rw[k] at this; cases this
nonrec def ipI (f:Int->Int->Int):TIp:=fun x y H Q=>∃ i j,x=.int i/\y=.int j/\Q (.int (f i j)) H
theorem Ydo:PIp X .Sub (ipI fun i j=>i - j):=by
 intro pins s σ H x y v u Q I r1 r2 h
 obtain⟨i,j,e1,e2,q⟩:=h
 subst e1; subst e2
 obtain⟨t,rfl⟩:=r1
 obtain⟨t',rfl⟩:=r2
 exact isub_int ⟨.int _,H,I.tok _,⟨_,rfl⟩,q⟩
end
section
variable {X:Cx} {pos:Pos}
nonrec def Yb9 (c:TT) (tb:TS):TS:=fun D σ H=>∃ W:Nat->St->Hp->Prop,(∃ m,W m σ H)/\∀ m σ H,W m σ H ->
 c σ H fun b H1=>if b=true then ∃ N:St->Hp->Prop,(∀ σ' H',N σ' H'->∃ m',m'<m/\W m' σ' H')/\tb { D with nx:=N,ct:=N,bk:=D.nx } σ H1 else D.nx σ H1
theorem Zw6 {c:Vv} {body:List Uae} {tc:TT} {tb:TS} (hp:Ued (Vm X.prog X.w) X.A X.env X.xe) (hc:PT X c tc) (hb:PSs X body tb):PS X (.While c body [] pos) (Yb9 tc tb):=by
 intro pins s σ H D I h
 obtain⟨W,⟨m0,w0⟩,turn⟩:=h
 refine wpAny_While (codeAny_whileLoop (fun n s'=>∃ σ' H',Inv X pins σ' H' s'/\W n σ' H') ?_ m0 ⟨σ,H,I,w0⟩)
 rintro n s1 ⟨σ1,H1,I1,w1⟩
 refine Uaj hp (thn (hc pins s1 σ1 H1 _ I1 (turn n σ1 H1 w1)) fun b s2 zz=>?_)
 obtain⟨H2,I2,q2⟩:=zz
 cases b with
 | true =>
  obtain⟨N,hN,q2⟩:=q2
  rw[if_pos rfl]
  refine Uaj hp (thn (hb pins s2 σ1 H2 _ I2 q2) fun f s3 q3=>?_)
  cases f with
  | next =>
   obtain⟨σ3,H3,I3,n3⟩:=q3
   obtain⟨m',hm,w3⟩:=hN σ3 H3 n3
   exact⟨m',hm,σ3,H3,I3,w3⟩
  | cont =>
   obtain⟨σ3,H3,I3,n3⟩:=q3
   obtain⟨m',hm,w3⟩:=hN σ3 H3 n3
   exact⟨m',hm,σ3,H3,I3,w3⟩
  | brk=>exact q3
  | ret v=>exact q3
 | false =>
  rw[if_neg Wbj]
  exact Uck ⟨σ1,H2,I2,q2⟩
end
structure It where
 go:Nat->Hp->Prop
 yld:Nat->Hp->V->Hp->Prop
 stop:Nat->Hp->Prop
def Zko (X:Cx) (pins:List (Ve×Obj)) (H:Hp) (b:Ve):Prop :=
 H b=none/\b≠X.env.locals/\b∉X.fs/\(b∈X.ex\/X.s₀.heap.objs.size<=b)/\(∀ x c,X.env.cells.lookup x=some c->c≠b)/\∀ p∈X.pn++pins,p.1≠b
theorem Inv.fpOk {X:Cx} {pins:List (Ve×Obj)} {σ:St} {H H':Hp} {s:Vd} {b:Ve} (I:Inv X pins σ H s) (hb:s.heap.objs.size<=b) (hn:H' b=none):Zko X pins H' b:=by
 refine⟨hn,Wbr (Xj I.lt hb),I.nofs hb,.inr (Waf I.sz hb),fun x c e z=>?_,fun p hp z=>?_⟩
 ·obtain⟨v,q⟩:=I.cell x c e
  exact absurd (Xj q.lt (by rw[z]; exact hb)) (Wbg _)
 ·exact absurd (Xj (Xf (I.pin p hp).1) (by rw[z]; exact hb)) (Wbg _)
structure Turn (P:Vh) (w:Vu) (K:Xb) (tg:Vv) (J:It) (fp:List Ve) (it:Ve) (tn:Nat->Vz->Prop):Prop where
 mem:it∈fp
 obj:∀ i h,tn i h->∀ b∈fp,∃ o,h.get? b=some o/\∀ v,o.data≠.cell v
 keep:∀ i h h',tn i h->(∀ b∈fp,∀ o,h.get? b=some o->h'.get? b=some o)->tn i h'
 item:∀ (X:Cx),X.prog=P->X.w=w->X.K=K->X.calm=true->∀ (i:Nat) (pins:List (Ve×Obj)) (s:Vd) (σ:St) (H:Hp) (E:Vb->Vd->Prop),Inv X pins σ H s->(∀ b∈fp,Zko X pins H b)->tn i s.heap->J.go i H ->
  Vf (Vm P w) X.A (Ubj (.ref it)) (fun r s1=>∃ u,r=some u /\
   Vf (Vm P w) X.A (Ucm tg (.ref it) u) (fun _ s2=>∃ x H',Inv X pins σ H' s2/\Zcg x u/\J.yld i H x H'/\tn (i+1) s2.heap/\∀ b∈fp,H' b=none) E s1) E s
 done:∀ (X:Cx),X.prog=P->X.w=w->X.K=K->X.calm=true->∀ (i:Nat) (pins:List (Ve×Obj)) (s:Vd) (σ:St) (H:Hp) (E:Vb->Vd->Prop),Inv X pins σ H s->(∀ b∈fp,Zko X pins H b)->tn i s.heap->J.stop i H ->
  Vf (Vm P w) X.A (Ubj (.ref it)) (fun r s1=>r=none/\Inv X pins σ H s1) E s
 self:∀ (A:Vt) (i:Nat) (s:Vd) (Q:Vb->Vd->Prop) (E:Vb->Vd->Prop),tn i s.heap->Q (.ref it) s->Vf (Vm P w) A (pyIter (.ref it)) Q E s
nonrec abbrev TI:=St->Hp->(It->Hp->Prop)->Prop
def PIE (X:Cx) (pins:List (Ve×Obj)) (σ:St) (tg:Vv) (R:It->Hp->Prop) (itv:Vb) (s2:Vd):Prop :=
 ∃ (it:Ve) (fp:List Ve) (tn:Nat->Vz->Prop) (J:It) (H':Hp),itv=.ref it/\Inv X pins σ H' s2/\Turn X.prog X.w X.K tg J fp it tn/\tn 0 s2.heap/\(∀ b∈fp,Zko X pins H' b)/\R J H'
def PI (X:Cx) (tg iter:Vv) (wi:TI):Prop :=
 ∀ (pins:List (Ve×Obj)) (s:Vd) (σ:St) (H:Hp) (R:It->Hp->Prop),Inv X pins σ H s->wi σ H R ->
  Vf (Vm X.prog X.w) X.A (eval iter X.env) (fun v s1=>Vf (Vm X.prog X.w) X.A (pyIter v) (PIE X pins σ tg R) X.xe s1) X.xe s
theorem Zup {M:Model} {A:Vt} {E:Vb->Vd->Prop} {s:Vd} {tg:Vv} {it:Ve} {u:Vb} {o:Obj} {n:String} {vs:Array Vb} {Q:Unit->Vd->Prop} (ho:s.heap.get? it=some o) (hc:o.cls=.type n) (hd:o.data=.fields vs)
  (hn:["enumerate","zip","dict_itemiterator","dict_reverseitemiterator","odict_iterator","itertools.zip_longest","itertools.pairwise"].contains n=false) (hQ:Q () s):Vf M A (Ucm tg (.ref it) u) Q E s:=by
 unfold Ucm
 cases tg<;>first
  | exact Vc hQ
  | (cases u<;>first
    | exact Vc hQ
    | (refine Va (wpAny_load ho ?_)
       rw[hc,hd]
       show Vf M A (if (["enumerate","zip","dict_itemiterator","dict_reverseitemiterator","odict_iterator","itertools.zip_longest","itertools.pairwise"].contains n&&vs[0]? == some (Uaa _))=true then _ else _) Q E s
       rw[if_neg (by intro h; rw[hn,Wfx] at h; cases h)]
       exact Vc hQ))
nonrec def Itl (K:Xb) (a:Ve):It :=
 ⟨fun i H=>∃ xs x,SqL K H a xs/\xs[i]? = some x,fun i H x H'=>H'=H/\∀ xs,SqL K H a xs->xs[i]? = some x,fun i H=>∃ xs,SqL K H a xs/\xs.length<=i⟩
nonrec def Itt (K:Xb) (a:Ve):It :=
 ⟨fun i H=>∃ xs x,SqT K H a xs/\xs[i]? = some x,fun i H x H'=>H'=H/\∀ xs,SqT K H a xs->xs[i]? = some x,fun i H=>∃ xs,SqT K H a xs/\xs.length<=i⟩
nonrec def Itr (lo:Int) (n:Nat):It:=⟨fun i _=>i<n,fun i H x H'=>H'=H/\x=.int (lo+i),fun i _=>n<=i⟩
theorem Zuy {P:Vh} {w:Vu} {K:Xb} {tg:Vv} (a it:Ve):Turn P w K tg (Itl K a) [it] it (fun i h=>h.IsListIter it a i) where
 mem:=by simp
 obj:=fun i h st b hb=>by
  have e:b=it:=by simpa using hb
  subst e
  obtain⟨o,e,c,d⟩:=st
  exact⟨o,e,fun v z=>by rw[d] at z; cases z⟩
 keep:=fun i h h' st k=>st.at fun o e=>k it (by simp) o e
 item:=by
  intro X hP hw hK hc i pins s σ H E I hf st hg
  subst hP hw hK
  obtain⟨xs,x,hq,hx⟩:=hg
  obtain⟨its,rv,p,hz⟩:=I.list hq
  obtain⟨u,hu,ru⟩:=rv.get hx
  obtain⟨f0,f1,f2,f3,f4,f5⟩:=hf it (by simp)
  refine wpAny_pyNext_list_item st p.isList (x:=u) (by simpa using hu) fun h' st' sb=>?_
  have I1:Inv X pins σ H { s with heap:=h' }:=I.turned (t':=s.toks) (fun b o hb e=>(sb.2 b hb).trans e) f0 f1 f3 f4 f5
  obtain⟨o,e,c,d⟩:=id st'
  exact⟨u,rfl,Zup (s:={ s with heap:=h' }) e c d (by decide) ⟨x,H,I1,ru,⟨rfl,fun ys hy=>by rw[I.list_inj hy hq]; exact hx⟩,st',fun b hb=>(hf b hb).1⟩⟩
 done:=by
  intro X hP hw hK hc i pins s σ H E I hf st hg
  subst hP hw hK
  obtain⟨xs,hq,hx⟩:=hg
  obtain⟨its,rv,p,hz⟩:=I.list hq
  obtain⟨f0,f1,f2,f3,f4,f5⟩:=hf it (by simp)
  have hl:=rv.length
  exact wpAny_pyNext_list_end (I.ok.hd hc) st p.isList (by simp; omega) fun h' eb=>⟨rfl,I.turned (t':=s.toks) (fun b o hb e=>eb b o hb e) f0 f1 f3 f4 f5⟩
 self:=fun _ _ _ _ _ st h=>wpAny_pyIter_listiter st h
theorem Zqt {P:Vh} {w:Vu} {K:Xb} {tg:Vv} (a it:Ve):Turn P w K tg (Itt K a) [it] it (fun i h=>h.IsTupleIter it a i) where
 mem:=by simp
 obj:=fun i h st b hb=>by
  have e:b=it:=by simpa using hb
  subst e
  obtain⟨o,e,c,d⟩:=st
  exact⟨o,e,fun v z=>by rw[d] at z; cases z⟩
 keep:=fun i h h' st k=>st.at fun o e=>k it (by simp) o e
 item:=by
  intro X hP hw hK hc i pins s σ H E I hf st hg
  subst hP hw hK
  obtain⟨xs,x,hq,hx⟩:=hg
  obtain⟨its,rv,p,hz⟩:=I.tuple hq
  obtain⟨u,hu,ru⟩:=rv.get hx
  obtain⟨f0,f1,f2,f3,f4,f5⟩:=hf it (by simp)
  refine wpAny_pyNext_tuple_item st (show s.heap.IsTuple a its.toArray from p) (x:=u) (by simpa using hu) fun h' st' sb=>?_
  have I1:Inv X pins σ H { s with heap:=h' }:=I.turned (t':=s.toks) (fun b o hb e=>(sb.2 b hb).trans e) f0 f1 f3 f4 f5
  obtain⟨o,e,c,d⟩:=id st'
  exact⟨u,rfl,Zup (s:={ s with heap:=h' }) e c d (by decide) ⟨x,H,I1,ru,⟨rfl,fun ys hy=>by rw[I.tuple_inj hy hq]; exact hx⟩,st',fun b hb=>(hf b hb).1⟩⟩
 done:=by
  intro X hP hw hK hc i pins s σ H E I hf st hg
  subst hP hw hK
  obtain⟨xs,hq,hx⟩:=hg
  obtain⟨its,rv,p,hz⟩:=I.tuple hq
  obtain⟨f0,f1,f2,f3,f4,f5⟩:=hf it (by simp)
  have hl:=rv.length
  exact wpAny_pyNext_tuple_end (I.ok.hd hc) st (show s.heap.IsTuple a its.toArray from p) (by simp; omega) fun h' eb=>⟨rfl,I.turned (t':=s.toks) (fun b o hb e=>eb b o hb e) f0 f1 f3 f4 f5⟩
 self:=fun _ _ _ _ _ st h=>wpAny_pyIter_tupleiter st h
theorem Zqo {P:Vh} {w:Vu} {K:Xb} {tg:Vv} (it:Ve) (lo:Int) (n:Nat):Turn P w K tg (Itr lo n) [it] it (fun i h=>Udj h it (lo+(i:Nat)*1) ((n:Int) - (i:Nat)) 1) where
 mem:=by simp
 obj:=fun i h st b hb=>by
  have e:b=it:=by simpa using hb
  subst e
  exact⟨_,st,fun v z=>by
   have z':Data.fields _=Data.cell v:=z
   cases z'⟩
 keep:=fun i h h' st k=>k it (by simp) _ st
 item:=by
  intro X hP hw hK hc i pins s σ H E I hf st hg
  subst hP hw hK
  obtain⟨f0,f1,f2,f3,f4,f5⟩:=hf it (by simp)
  have W:=Walks.range (prog:=X.prog) (w:=X.w) (I.ok.hd hc) it lo 1 n
  refine W.item i s _ _ hg st fun v h' tk hv st' kk=>?_
  obtain⟨t,rfl⟩:=hv
  have I1:Inv X pins σ H { s with heap:=h',toks:=tk }:=I.turned (fun b o hb e=>kk b o (by simpa using hb) e) f0 f1 f3 f4 f5
  refine⟨_,rfl,Zup (s:={ s with heap:=h',toks:=tk }) (n := "range_iterator") st' rfl rfl (by decide) ⟨.int (lo+i),H,I1,⟨t,?_⟩,⟨rfl,rfl⟩,st',fun b hb=>(hf b hb).1⟩⟩
  rw[Int.mul_one]
 done:=by
  intro X hP hw hK hc i pins s σ H E I hf st hg
  subst hP hw hK
  obtain⟨f0,f1,f2,f3,f4,f5⟩:=hf it (by simp)
  exact Ucd (I.ok.hd hc) st (by have:n<=i:=hg; omega) fun h' eb=>⟨rfl,I.turned (t':=s.toks) (fun b o hb e=>eb b o hb e) f0 f1 f3 f4 f5⟩
 self:=fun _ _ _ _ _ st h=>Uce st h
section
variable {X:Cx} {tg:Vv}
theorem Zwv {pins:List (Ve×Obj)} {σ:St} {H:Hp} {s:Vd} {R:It->Hp->Prop} {E:Vb->Vd->Prop} {lo hi:Int} {t u v:Tok} {tk:Nat} (I:Inv X pins σ H s) (h1 : -(2 ^ 62)<=lo) (h2:lo<2 ^ 62) (h3 : -(2 ^ 62)<=hi) (h4:hi<2 ^ 62)
  (q:R (Itr lo (hi - lo).toNat) H):Vf (Vm X.prog X.w) X.A (pyIter (.ref s.heap.objs.size)) (PIE X pins σ tg R) E { s with heap:=s.heap.push { cls:=.type "range",data:=.fields #[.int lo t,.int hi u,.int 1 v] },toks:=tk }:=by
 refine wpAny_pyIter_range (Tcv ..) (small_one h1 h2 h3 h4) ?_
 have I1:Inv X pins σ H { s with heap:=s.heap.push { cls:=.type "range",data:=.fields #[.int lo t,.int hi u,.int 1 v] },toks:=tk }:=I.kept fun b o e=>Xa _ e
 refine⟨(s.heap.push { cls:=.type "range",data:=.fields #[.int lo t,.int hi u,.int 1 v] }).objs.size,[(s.heap.push { cls:=.type "range",data:=.fields #[.int lo t,.int hi u,.int 1 v] }).objs.size],_,_,H,rfl,
  I1.kept (t':=tk) fun b o e=>Xa _ e,Zqo _ lo (hi - lo).toNat,?_,fun b hb=>?_,q⟩
 ·have e1:lo+((0:Nat):Int)*1=lo:=by simp
  have e2:(((hi - lo).toNat:Nat):Int) - ((0:Nat):Int)=Uz lo hi 1:=by rw[rangeSize_one]; split<;>omega
  show Udj _ _ (lo+((0:Nat):Int)*1) ((((hi - lo).toNat:Nat):Int) - ((0:Nat):Int)) 1
  rw[e1,e2]
  exact Xe _ rfl
 ·have e:b=(s.heap.push { cls:=.type "range",data:=.fields #[.int lo t,.int hi u,.int 1 v] }).objs.size:=by simpa using hb
  subst e
  exact I1.fpOk (Xd _) (I1.hok.fresh (Xd _))
nonrec def iRng1 (ta:TA):TI:=fun σ H R=>ta σ H fun vs H1=>∃ j:Int,vs=[.int j] /\ -(2 ^ 62)<=j/\j<2 ^ 62/\R (Itr 0 j.toNat) H1
theorem Zrp {a:Vv} {ta:TA} {p pos:Pos} (hg:Gl X "range") (hm:X.mg "range" = none) (ha:PA X [a] ta) (hs:Vg [a] X.env=[(false,eval a X.env)]:=by rfl):PI X tg (.Call (.Name "range" p) [a] [] pos) (iRng1 ta):=by
 intro pins s σ H R I h
 refine Call_ (Zec I hg hm boot_range (Ui (thn (ha pos pins s σ H _ I h) fun us s1 ⟨vs,H1,I1,r1,q1⟩=>?_) hs rfl))
 obtain⟨j,e,q1,q2,q⟩:=q1
 subst e
 cases r1 with
 | cons r rr =>
  cases rr
  obtain⟨t,rfl⟩:=r
  exact call_range_1 (Zwv I1 (by omega) (by omega) q1 q2 (by simpa using q))
nonrec def tFor (wi:TI) (g:TG) (tb:TS):TS:=fun D σ H=>wi σ H fun J H1=>∃ W:Nat->Nat->St->Hp->Prop,(∃ m,W 0 m σ H1)/\∀ i m σ H,W i m σ H ->
 (J.stop i H/\D.nx σ H)\/(J.go i H/\∃ N:St->Hp->Prop,(∀ σ' H',N σ' H'->∃ m',m'<m/\W (i+1) m' σ' H')/\∀ x H',J.yld i H x H'->g x σ H' fun σ2 H2=>tb { D with nx:=N,ct:=N,bk:=D.nx } σ2 H2)
nonrec def Zka (fp:List Ve) (h:Vz):List (Ve×Obj):=fp.filterMap fun b=>(h.get? b).map fun o=>(b,o)
theorem Zdk {fp:List Ve} {h:Vz} {b:Ve} {o:Obj} (hb:b∈fp) (e:h.get? b=some o):(b,o)∈Zka fp h:=Wcr.mpr ⟨b,hb,by rw[e]; rfl⟩
theorem Zso {fp:List Ve} {h:Vz} {p:Ve×Obj} (hp:p∈Zka fp h):p.1∈fp/\h.get? p.1=some p.2:=by
 obtain⟨b,hb,e⟩:=Wcr.mp hp
 cases q:h.get? b with
 | none=>rw[q] at e; cases e
 | some o =>
  rw[q] at e
  have e':(b,o)=p:=Xy.inj e
  subst e'
  exact⟨hb,q⟩
theorem Inv.pinned {pins:List (Ve×Obj)} {σ:St} {H:Hp} {s:Vd} {fp:List Ve} (I:Inv X pins σ H s) (hf:∀ b∈fp,Zko X pins H b) (ho:∀ b∈fp,∃ o,s.heap.get? b=some o/\∀ v,o.data≠.cell v):Inv X (pins++Zka fp s.heap) σ H s :=
 I.pins_of fun p hp=>(Xv.mp hp).elim (fun z=>I.pin p (Xr _ z)) fun z=>by
  obtain⟨hb,e⟩:=Zso z
  obtain⟨f0,f1,f2,_⟩:=hf p.1 hb
  obtain⟨o,e',d⟩:=ho p.1 hb
  rw[e] at e'; cases e'
  exact⟨e,f0,f1,f2,d⟩
theorem Inv.unpinned {pins pl:List (Ve×Obj)} {σ:St} {H:Hp} {s:Vd} (I:Inv X (pins++pl) σ H s):Inv X pins σ H s:=I.pins_of fun p hp=>I.pin p (Xr _ (Wba _ hp))
theorem Ybp {iter:Vv} {body:List Uae} {wi:TI} {g:TG} {tb:TS} {pos:Pos} (hp:Ued (Vm X.prog X.w) X.A X.env X.xe) (hc:X.calm=true) (hi:PI X tg iter wi) (hg:PG X tg g) (hb:PSs X body tb)
  (hs:∀ x,Vx iter X.env x=pure x:=by intro _; rfl):PS X (.For tg iter body [] pos) (tFor wi g tb):=by
 intro pins s σ H D I h
 refine wpAny_For (thn (hi pins s σ H _ I h) fun v s1 h1=>thn h1 fun itv s2 h2=>?_) hs
 obtain⟨it,fp,tn,J,H2,e,I2,T,st2,f2,W,⟨m0,w0⟩,turn⟩:=h2
 subst e
 -- what stays true of the iterator's objects through the loop
 have stat:∀ {H':Hp},(∀ b∈fp,H' b=none)->∀ b∈fp,Zko X pins H' b:=fun hn b hb=>⟨hn b hb,(f2 b hb).2⟩
 refine codeAny_forLoop_any (fun n s'=>∃ i σ' H',Inv X pins σ' H' s'/\tn i s'.heap/\(∀ b∈fp,H' b=none)/\W i n σ' H') ?_ m0 ⟨0,σ,H2,I2,st2,fun b hb=>(f2 b hb).1,w0⟩
 rintro n s3 ⟨i,σ3,H3,I3,st3,fr3,w3⟩
 rcases turn i n σ3 H3 w3 with ⟨stop,qn⟩ | ⟨go,N,hN,step⟩
 ·refine Uaj hp (thn (T.done X rfl rfl rfl hc i pins s3 σ3 H3 X.xe I3 (stat fr3) st3 stop) fun r s4 zz=>?_)
  obtain⟨hr,I4⟩:=zz
  subst hr
  exact Uck ⟨σ3,H3,I4,qn⟩
 ·refine Uaj hp (thn (T.item X rfl rfl rfl hc i pins s3 σ3 H3 X.xe I3 (stat fr3) st3 go) fun r s4 zz=>?_)
  obtain⟨u,hr,h4⟩:=zz
  subst hr
  refine Uaj hp (thn h4 fun _ s5 zz=>?_)
  obtain⟨x,H5,I5,r5,y5,st5,fr5⟩:=zz
  have I5':=I5.pinned (stat fr5) (T.obj _ _ st5)
  refine Uaj hp (thn (hg _ s5 σ3 H5 x u _ I5' r5 (step x H5 y5)) fun _ s6 zz=>?_)
  obtain⟨σ6,H6,I6,q6⟩:=zz
  refine Uaj hp (thn (hb _ s6 σ6 H6 _ I6 q6) fun f s7 q7=>?_)
  have again:∀ {σ7:St} {H7:Hp},Inv X (pins++Zka fp s5.heap) σ7 H7 s7->N σ7 H7->∃ m,m<n/\∃ i σ' H',Inv X pins σ' H' s7/\tn i s7.heap/\(∀ b∈fp,H' b=none)/\W i m σ' H':=fun {σ7 H7} I7 n7=>by
   obtain⟨m',hm,w7⟩:=hN σ7 H7 n7
   refine⟨m',hm,i+1,σ7,H7,I7.unpinned,T.keep _ _ _ st5 fun b hb o e=>(I7.pin (b,o) (Xr _ (Xr _ (Zdk hb e)))).1,fun b hb=>?_,w7⟩
   obtain⟨o,e,d⟩:=T.obj _ _ st5 b hb
   exact(I7.pin (b,o) (Xr _ (Xr _ (Zdk hb e)))).2.1
  cases f with
  | next=>obtain⟨σ7,H7,I7,n7⟩:=q7; exact again I7 n7
  | cont=>obtain⟨σ7,H7,I7,n7⟩:=q7; exact again I7 n7
  | brk=>obtain⟨σ7,H7,I7,q7⟩:=q7; exact⟨σ7,H7,I7.unpinned,q7⟩
  | ret v=>obtain⟨x7,σ7,H7,I7,r7,q7⟩:=q7; exact⟨x7,σ7,H7,I7.unpinned,r7,q7⟩
end
nonrec abbrev R2:=V->V->Hp->VK->Prop
def OpR (X:Cx) (f:Vb->Vb->Sem Vb) (r:R2):Prop :=
 ∀ (pins:List (Ve×Obj)) (s:Vd) (σ:St) (H:Hp) (x y:V) (v u:Vb) (Q:VK),Inv X pins σ H s->Zcg x v->Zcg y u->r x y H Q ->
  Vf (Vm X.prog X.w) X.A (f v u) (EP X pins σ Q) X.xe s
def UnR (X:Cx) (f:Vb->Sem Vb) (r:V->Hp->VK->Prop):Prop :=
 ∀ (pins:List (Ve×Obj)) (s:Vd) (σ:St) (H:Hp) (x:V) (v:Vb) (Q:VK),Inv X pins σ H s->Zcg x v->r x H Q ->
  Vf (Vm X.prog X.w) X.A (f v) (EP X pins σ Q) X.xe s
def Zjs (X:Cx) (f:Vb) (r:List V->Hp->VK->Prop):Prop :=
 ∀ (pins:List (Ve×Obj)) (s:Vd) (σ:St) (H:Hp) (xs:List V) (us:List Vb) (Q:VK),Inv X pins σ H s->Zb8 xs us->r xs H Q ->
  Vf (Vm X.prog X.w) X.A (call f us) (EP X pins σ Q) X.xe s
def TruR (X:Cx) (r:V->Hp->(Bool->Hp->Prop)->Prop):Prop :=
 ∀ (pins:List (Ve×Obj)) (s:Vd) (σ:St) (H:Hp) (x:V) (v:Vb) (Q:Bool->Hp->Prop),Inv X pins σ H s->Zcg x v->r x H Q ->
  Vf (Vm X.prog X.w) X.A (truthy v) (TP X pins σ Q) X.xe s
nonrec def tOp (r:R2) (ta tb:TE):TE:=fun σ H Q=>ta σ H fun x H1=>tb σ H1 fun y H2=>r x y H2 Q
nonrec def tUn (r:V->Hp->VK->Prop) (ta:TE):TE:=fun σ H Q=>ta σ H fun x H1=>r x H1 Q
nonrec def rI (C:Int->Int->Prop) (g:Int->Int->V):R2:=fun x y H Q=>∃ i j,x=.int i/\y=.int j/\C i j/\Q (g i j) H
nonrec def rI0 (g:Int->Int->V):R2:=fun x y H Q=>∃ i j,x=.int i/\y=.int j/\Q (g i j) H
nonrec def rU (g:Int->V):V->Hp->VK->Prop:=fun x H Q=>∃ i,x=.int i/\Q (g i) H
section
variable {X:Cx} {a b c:Vv} {ta tb tc:TE} {pos:Pos}
theorem binT (ha:PE X a ta) (hb:PE X b tb) {pins:List (Ve×Obj)} {s:Vd} {σ:St} {H:Hp} {R:V->V->Hp->Prop} (I:Inv X pins σ H s)
  (h:ta σ H fun x H1=>tb σ H1 fun y H2=>R x y H2) {Q:Vb->Vd->Prop} {f:Vb->Vb->Sem Vb}
  (hf:∀ v u s2 x y H2,Inv X pins σ H2 s2->Zcg x v->Zcg y u->R x y H2->Vf (Vm X.prog X.w) X.A (f v u) Q X.xe s2) :
  Vf (Vm X.prog X.w) X.A (eval a X.env) (fun v s₁=>Vf (Vm X.prog X.w) X.A (eval b X.env) (fun u s₂=>Vf (Vm X.prog X.w) X.A (f v u) Q X.xe s₂) X.xe s₁) X.xe s:=by
 refine thn (ha pins s σ H _ I h) fun v s1 zz=>?_
 obtain⟨x,H1,I1,r1,q1⟩:=zz
 refine thn (hb pins s1 σ H1 _ I1 q1) fun u s2 zz=>?_
 obtain⟨y,H2,I2,r2,q2⟩:=zz
 exact hf v u s2 x y H2 I2 r1 r2 q2
theorem pe_op {op:Udz} {r:R2} (ho:OpR X (Vy op) r) (ha:PE X a ta) (hb:PE X b tb):PE X (.BinOp a op b pos) (tOp r ta tb):=by
 intro pins s σ H Q I h
 exact wpAny_BinOp (binT ha hb I h fun v u s2 x y H2 I2 rx ry q=>ho pins s2 σ H2 x y v u Q I2 rx ry q)
theorem pe_un {op:UnaryOp} {r:V->Hp->VK->Prop} (ho:UnR X (unaryOp op) r) (ha:PE X a ta):PE X (.UnaryOp op a pos) (tUn r ta):=by
 intro pins s σ H Q I h
 exact UnaryOp_ (thn (ha pins s σ H _ I h) fun v s1 ⟨x,H1,I1,r1,q1⟩=>ho pins s1 σ H1 x v Q I1 r1 q1)
theorem opI {f:Vb->Vb->Sem Vb} {C:Int->Int->Prop} {g:Int->Int->Int}
  (rule:∀ (i j:Int) (t u:Tok) (s:Vd) (Q:Vb->Vd->Prop) (E:Vb->Vd->Prop),C i j->Q (.int (g i j) s.toks) { s with toks:=s.toks+1 }->Vf (Vm X.prog X.w) X.A (f (.int i t) (.int j u)) Q E s) :
  OpR X f (rI C fun i j=>.int (g i j)):=by
 intro pins s σ H x y v u Q I rx ry h
 obtain⟨i,j,rfl,rfl,hc,q⟩:=h
 obtain⟨t,rfl⟩:=rx
 obtain⟨t',rfl⟩:=ry
 exact rule i j t t' s _ _ hc ⟨.int (g i j),H,I.tok _,⟨_,rfl⟩,q⟩
theorem opI0 {f:Vb->Vb->Sem Vb} {g:Int->Int->Int}
  (rule:∀ (i j:Int) (t u:Tok) (s:Vd) (Q:Vb->Vd->Prop) (E:Vb->Vd->Prop),Q (.int (g i j) s.toks) { s with toks:=s.toks+1 }->Vf (Vm X.prog X.w) X.A (f (.int i t) (.int j u)) Q E s) :
  OpR X f (rI0 fun i j=>.int (g i j)):=by
 intro pins s σ H x y v u Q I rx ry h
 obtain⟨i,j,rfl,rfl,q⟩:=h
 obtain⟨t,rfl⟩:=rx
 obtain⟨t',rfl⟩:=ry
 exact rule i j t t' s _ _ ⟨.int (g i j),H,I.tok _,⟨_,rfl⟩,q⟩
theorem opB0 {f:Vb->Vb->Sem Vb} {g:Int->Int->Bool}
  (rule:∀ (i j:Int) (t u:Tok) (s:Vd) (Q:Vb->Vd->Prop) (E:Vb->Vd->Prop),Q (.bool (g i j)) s->Vf (Vm X.prog X.w) X.A (f (.int i t) (.int j u)) Q E s) :
  OpR X f (rI0 fun i j=>.bl (g i j)):=by
 intro pins s σ H x y v u Q I rx ry h
 obtain⟨i,j,rfl,rfl,q⟩:=h
 obtain⟨t,rfl⟩:=rx
 obtain⟨t',rfl⟩:=ry
 exact rule i j t t' s _ _ ⟨.bl (g i j),H,I,rfl,q⟩
def Yc0 (i j:Int):Prop:=0<j/\j<1073741824
def Yc8 (i j:Int):Prop:=0<=j/\j<=1000000/\i.natAbs<2 ^ 64
def Zye (i j:Int):Prop:=(-(2 ^ 64)<i/\i<2 ^ 64)\/(-(2 ^ 64)<j/\j<2 ^ 64)
theorem Zye.ok {i j:Int} (h:Zye i j):IntMulOk i j:=by
 rcases h with ⟨h1,h2⟩ | ⟨h1,h2⟩
 ·exact .of_left (intBits_le_64 h1 h2)
 ·exact .of_right (intBits_le_64 h1 h2)
theorem Yde:OpR X (Vy .Add) (rI0 fun i j=>.int (i+j)):=opI0 fun _ _ _ _ _ _ _ q=>add_int q
theorem Ycm:OpR X (Vy .Sub) (rI0 fun i j=>.int (i - j)):=opI0 fun _ _ _ _ _ _ _ q=>sub_int q
theorem Yc5:OpR X (Vy .Mult) (rI Zye fun i j=>.int (i*j)):=opI fun _ _ _ _ _ _ _ hc q=>mul_int q hc.ok
theorem Zzw:OpR X (Vy .FloorDiv) (rI Yc0 fun i j=>.int (i / j)):=opI fun i j _ _ _ _ _ hc q=>by
 have h1:(0:Int)<j:=hc.1
 have h2:j<1073741824:=hc.2
 exact floordiv_int (by omega) (by rw[Int.fdiv_eq_ediv_of_nonneg i (by omega)]; exact q) (.inl (Tbs (by omega)))
theorem Ybi:OpR X (Vy .Mod) (rI (fun _ j=>0<j) fun i j=>.int (i % j)):=opI fun i j _ _ _ _ _ hc q=>by
 have h1:(0:Int)<j:=hc
 exact mod_int' (by omega) (by rw[Int.fmod_eq_emod_of_nonneg i (by omega)]; exact q)
theorem Ydx:OpR X (Vy .Pow) (rI Yc8 fun i j=>.int (i ^ j.toNat)):=opI fun _ _ _ _ _ _ _ hc q=>pow_int_small hc.1 hc.2.1 hc.2.2 q
theorem unI {f:Vb->Sem Vb} {g:Int->Int}
  (rule:∀ (i:Int) (t:Tok) (s:Vd) (Q:Vb->Vd->Prop) (E:Vb->Vd->Prop),Q (.int (g i) s.toks) { s with toks:=s.toks+1 }->Vf (Vm X.prog X.w) X.A (f (.int i t)) Q E s) :
  UnR X f (rU fun i=>.int (g i)):=by
 intro pins s σ H x v Q I rx h
 obtain⟨i,rfl,q⟩:=h
 obtain⟨t,rfl⟩:=rx
 exact rule i t s _ _ ⟨.int (g i),H,I.tok _,⟨_,rfl⟩,q⟩
theorem Ybs:UnR X (unaryOp .USub) (rU fun i=>.int (-i)):=unI fun _ _ _ _ _ q=>neg_int q
end
section
variable {X:Cx} {a b c:Vv} {ta tb tc:TE} {pos:Pos}
theorem op_lt:OpR X (Vr .Lt) (rI0 fun i j=>.bl (decide (i<j))):=opB0 fun _ _ _ _ _ _ _ q=>lt_int q
theorem op_le:OpR X (Vr .LtE) (rI0 fun i j=>.bl (decide (i<=j))):=opB0 fun _ _ _ _ _ _ _ q=>le_int q
theorem op_gt:OpR X (Vr .Gt) (rI0 fun i j=>.bl (decide (j<i))):=opB0 fun _ _ _ _ _ _ _ q=>gt_int q
theorem op_ge:OpR X (Vr .GtE) (rI0 fun i j=>.bl (decide (j<=i))):=opB0 fun _ _ _ _ _ _ _ q=>ge_int q
theorem Za1 (b:Vv) {op:CmpOp} (h:op≠.In:=by decide) (h2:op≠.NotIn:=by decide):Uba op b=false:=by
 have e1:(op==CmpOp.In)=false:=by cases op<;>first | rfl | exact absurd rfl h
 have e2:(op==CmpOp.NotIn)=false:=by cases op<;>first | rfl | exact absurd rfl h2
 cases b<;>simp[Uba,e1,e2]
theorem Zz4 {op:CmpOp} {r:R2} (ho:OpR X (Vr op) r) (ha:PE X a ta) (hb:PE X b tb) (hm:Uba op b=false):PE X (.Compare a [op] [b] pos) (tOp r ta tb):=by
 intro pins s σ H Q I h
 exact wpAny_Compare1 (binT ha hb I h fun v u s2 x y H2 I2 rx ry q=>ho pins s2 σ H2 x y v u Q I2 rx ry q) hm
nonrec def tTest (t:TE):TT:=fun σ H Q=>t σ H fun x H'=>∃ k,x=.bl k/\Q k H'
theorem Zzo {op:CmpOp} {r:R2} (ho:OpR X (Vr op) r) (ha:PE X a ta) (hb:PE X b tb) (hm:Uba op b=false):PT X (.Compare a [op] [b] pos) (tTest (tOp r ta tb)):=by
 intro pins s σ H Q I h
 refine wpAny_isTrue_Compare1 (thn (ha pins s σ H _ I h) fun v s1 ⟨x,H1,I1,r1,q1⟩=>thn (hb pins s1 σ H1 _ I1 q1) fun u s2 ⟨y,H2,I2,r2,q2⟩ =>
  thn (ho pins s2 σ H2 x y v u _ I2 r1 r2 q2) fun c s3 ⟨z,H3,I3,r3,k,e,q3⟩=>?_) hm
 subst e
 cases r3
 exact Uai ⟨H3,I3,q3⟩
nonrec def Zxo (r r':R2) (ta tb tc:TE):TE:=fun σ H Q=>ta σ H fun x H1=>tb σ H1 fun y H2=>r x y H2 fun z H3=>∃ k,z=.bl k /\
 (if k=true then tc σ H3 fun w' H4=>r' y w' H4 Q else Q (.bl false) H3)
theorem Zw4 {op op':CmpOp} {r r':R2} (ho:OpR X (Vr op) r) (ho':OpR X (Vr op') r') (ha:PE X a ta) (hb:PE X b tb) (hc:PE X c tc)
  (hm:lastMarks [op,op'] [b,c]=false:=by with_unfolding_all rfl):PE X (.Compare a [op,op'] [b,c] pos) (Zxo r r' ta tb tc):=by
 intro pins s σ H Q I h
 refine Compare_chain (thn (ha pins s σ H _ I h) fun v s1 ⟨x,H1,I1,r1,q1⟩=>chain_link (thn (hb pins s1 σ H1 _ I1 q1) fun u s2 ⟨y,H2,I2,r2,q2⟩ =>
  thn (ho pins s2 σ H2 x y v u _ I2 r1 r2 q2) fun d s3 ⟨z,H3,I3,r3,k,e,q3⟩=>?_)) hm
 subst e
 cases r3
 refine Uai ?_
 cases k with
 | false=>exact ite_ff ⟨.bl false,H3,I3,rfl,q3⟩
 | true=>exact ite_tt (chain_last (thn (hc pins s3 σ H3 _ I3 q3) fun w' s4 ⟨z',H4,I4,r4,q4⟩=>ho' pins s4 σ H4 y z' u w' Q I4 r2 r4 q4))
def TruV (K:Xb) (x:V) (H:Hp) (k:Bool):Prop :=
 match x with
 | .non=>k=false
 | .bl b=>k=b
 | .int i=>k=(i != 0)
 | .str y=>y.length<=sizeLine/\k=((y.length:Int) != 0)
 | .byt y=>y.size<=sizeLine/\k=((y.size:Int) != 0)
 | .ref p=>(∃ xs,SqL K H p xs/\k = !xs.isEmpty)\/(∃ xs,SqT K H p xs/\k = !xs.isEmpty)\/∃ kvs,H p=some (.dK kvs)/\k = !kvs.isEmpty
 | _=>False
theorem Zqw {κ:Type} {kvs:List (κ×V)} {vs:List (κ×Vb)} (r:KV kvs vs):(!vs.isEmpty) = !kvs.isEmpty:=by
 cases r<;>rfl
theorem Zjy {xs:List V} {its:List Vb} (r:Zb8 xs its):(!its.toArray.isEmpty) = !xs.isEmpty:=by
 cases r<;>simp
theorem Zmp:(sizeLine:Nat)<2 ^ 63:=by rw[Ubf]; decide
theorem Ycj:TruR X (fun x H Q=>∃ k,TruV X.K x H k/\Q k H):=by
 intro pins s σ H x v Q I rx h
 obtain⟨k,e,q⟩:=h
 have hl:=Zmp
 have hs:sizeLine=16777216:=Ubf
 cases x with
 | non =>
  cases rx
  have e':k=false:=e
  subst e'
  exact truthy_none ⟨H,I,q⟩
 | bl b =>
  cases rx
  have e':k=b:=e
  subst e'
  exact Uai ⟨H,I,q⟩
 | int i =>
  obtain⟨t,rfl⟩:=rx
  have e':k=(i != 0):=e
  subst e'
  exact PySem.P.truthy_int ⟨H,I,q⟩
 | str y =>
  obtain⟨t,rfl⟩:=rx
  obtain⟨hy,e'⟩:y.length<=sizeLine/\k=((y.length:Int) != 0):=e
  subst e'
  exact PySem.P.truthy_str (by omega) ⟨H,I.tok _,q⟩
 | byt y =>
  obtain⟨t,rfl⟩:=rx
  obtain⟨hy,e'⟩:y.size<=sizeLine/\k=((y.size:Int) != 0):=e
  subst e'
  exact PySem.W.truthy_bytes (by omega) ⟨H,I.tok _,q⟩
 | ref p =>
  cases rx
  have e':(∃ xs,SqL X.K H p xs/\k = !xs.isEmpty)\/(∃ xs,SqT X.K H p xs/\k = !xs.isEmpty)\/∃ kvs,H p=some (.dK kvs)/\k = !kvs.isEmpty:=e
  rcases e' with ⟨xs,hx,e'⟩ | ⟨xs,hx,e'⟩ | ⟨kvs,hx,e'⟩
  ·subst e'
   obtain⟨its,r,pl,hz⟩:=I.list hx
   have hlen:=r.length
   exact wpAny_truthy_list pl.isList (by simp only[Xm]; omega) ⟨H,I.tok _,by rw[Zjy r]; exact q⟩
  ·subst e'
   obtain⟨its,r,pl,hz⟩:=I.tuple hx
   have hlen:=r.length
   exact truthy_tuple pl (by simp only[Xm]; omega) ⟨H,I.tok _,by rw[Zjy r]; exact q⟩
  ·subst e'
   obtain⟨hz,hS,vs,r,m⟩:kvs.length<=sizeLine/\(p==Uad)=false/\∃ vs,KV kvs vs/\s.heap.DictOf (Zoa X.prog X.w) p vs:=I.hok p _ hx
   have hlen:kvs.length=vs.length:=Tct r
   exact wpAny_truthy_dict hS m (by omega) ⟨H,I.tok _,by rw[Zqw r]; exact q⟩
 | _=>exact(show False from e).elim
theorem Zv9 (ha:PE X a ta) (he:∀ whole,isTrue a X.env whole=(do let v<-whole; standAt a.pos; Udi [v] (truthy v))) :
  PT X a (fun σ H Q=>ta σ H fun x H'=>∃ k,TruV X.K x H' k/\Q k H'):=by
 intro pins s σ H Q I h
 exact isTrue_plain (thn (ha pins s σ H _ I h) fun v s1 ⟨x,H1,I1,r1,q1⟩=>Ycj pins s1 σ H1 x v Q I1 r1 q1) (he _)
theorem Zq3:OpR X (Vy .Add) (fun x y H Q=>∃ i j,x=.str i/\y=.str j/\i.length+j.length<=sizeLine/\Q (.str (i++j)) H):=by
 intro pins s σ H x y v u Q I rx ry h
 obtain⟨i,j,rfl,rfl,hz,q⟩:=h
 obtain⟨t,rfl⟩:=rx
 obtain⟨t',rfl⟩:=ry
 exact add_str (fun t' tk=>⟨.str (i++j),H,I.tok _,⟨_,rfl⟩,q⟩) hz
theorem Zhp {x:V} {us:List Vb} (r:Zb8 [x] us):∃ u,us=[u]/\Zcg x u:=by
 cases r with
 | cons r1 r2=>cases r2; exact⟨_,rfl,r1⟩
theorem Zwh {x y:V} {us:List Vb} (r:Zb8 [x,y] us):∃ u w',us=[u,w']/\Zcg x u/\Zcg y w':=by
 cases r with
 | cons r1 r2 =>
  cases r2 with
  | cons r3 r4=>cases r4; exact⟨_,_,rfl,r1,r3⟩
theorem Zw7:Zjs X (.builtin "abs") (fun xs H Q=>∃ i,xs=[.int i]/\Q (.int (if i<0 then -i else i)) H):=by
 intro pins s σ H xs us Q I r h
 obtain⟨i,rfl,q⟩:=h
 obtain⟨u,rfl,t,rfl⟩:=Zhp r
 exact Udv fun u tk=>⟨.int (if i<0 then -i else i),H,I.tok _,⟨_,rfl⟩,q⟩
theorem Zr8 (hc:X.calm=true):Zjs X (.builtin "max") (fun xs H Q=>∃ i j,xs=[.int i,.int j]/\Q (.int (if j > i then j else i)) H):=by
 intro pins s σ H xs us Q I r h
 obtain⟨i,j,rfl,q⟩:=h
 obtain⟨u,w',rfl,⟨t,rfl⟩,⟨t',rfl⟩⟩:=Zwh r
 refine max_two_ints (I.ok.hd hc) fun h' tk k=>⟨_,H,I.kept k,?_,q⟩
 by_cases hj:j > i
 ·rw[if_pos hj,if_pos hj]; exact⟨_,rfl⟩
 ·rw[if_neg hj,if_neg hj]; exact⟨_,rfl⟩
theorem Zmv:Zjs X (.type "int") (fun xs H Q=>(∃ i,xs=[.int i]/\Q (.int i) H)\/∃ k,xs=[.bl k]/\Q (.int (if k then 1 else 0)) H):=by
 intro pins s σ H xs us Q I r h
 rcases h with ⟨i,rfl,q⟩ | ⟨k,rfl,q⟩
 ·obtain⟨u,rfl,t,rfl⟩:=Zhp r
  exact call_int_int ⟨.int i,H,I,⟨_,rfl⟩,q⟩
 ·obtain⟨u,rfl,r1⟩:=Zhp r
  cases r1
  exact call_int_bool ⟨.int (if k then 1 else 0),H,I.tok _,⟨_,rfl⟩,q⟩
end
structure Room (k:Nat) (A:Vt):Prop where
 hd:A.handled=none
 dp:A.depth+3*k+5<recursionLimit
 un:A.units+16*k+200<cLine
 gd:A.guards=some []
theorem Room.mono {j k:Nat} {A:Vt} (r:Room k A) (h:j<=k):Room j A:=⟨r.hd,by have:=r.dp; omega,by have:=r.un; omega,r.gd⟩
theorem Room.deeper {k:Nat} {A:Vt} (r:Room (k+1) A) (env:Env):Room k (A.deeper env) :=
 ⟨r.hd,by have:=r.dp; show A.depth+1+3*k+5<_; omega,by have:=r.un; show A.units+3+16*k+200<_; omega,r.gd⟩
theorem Room.depth {k:Nat} {A:Vt} (r:Room k A):A.depth<recursionLimit:=by have:=r.dp; omega
theorem Room.units {k:Nat} {A:Vt} (r:Room k A):A.units+64<cLine:=by have:=r.un; omega
nonrec def tNil:TA:=fun _ H Q=>Q [] H
nonrec def tCons (ta:TE) (tr:TA):TA:=fun σ H Q=>ta σ H fun x H1=>tr σ H1 fun xs H2=>Q (x::xs) H2
section
variable {X:Cx} {e:Vv} {es:List Vv} {te:TE} {t:TA} {pos:Pos}
theorem Ycr:PA X [] tNil:=fun _ _ _ _ H Q I h=>Calls.spliced_nil ⟨[],H,I,.nil,h⟩
theorem Zyi (ha:PE X e te) (hr:PA X es t) (hs:Vg (e::es) X.env=(false,eval e X.env)::Vg es X.env:=by rfl):PA X (e::es) (tCons te t):=by
 intro pos pins s σ H Q I h
 rw[hs]
 show Vf _ _ (spliced ((false,eval e X.env)::Ual pos (Vg es X.env))) _ _ s
 refine Calls.spliced_cons (thn (ha pins s σ H _ I h) fun u s1 zz=>?_)
 obtain⟨x,H1,I1,r1,q1⟩:=zz
 exact thn (hr pos pins s1 σ H1 _ I1 q1) fun us s2 ⟨xs,H2,I2,r2,q2⟩=>⟨x::xs,H2,I2,.cons r1 r2,q2⟩
nonrec def tTup (t:TA):TE:=fun σ H Q=>t σ H fun xs H1=>xs.length<=sizeLine/\∀ p,H1 p=none->Q (.ref p) (upd H1 p (.tup xs))
nonrec def tLst (t:TA):TE:=fun σ H Q=>t σ H fun xs H1=>xs.length<=sizeLine/\∀ p,H1 p=none->Q (.ref p) (upd H1 p (.lst xs))
theorem Ycw {x1} (h:PA X es t):PE X (.Tuple es x1 pos) (tTup t):=by
 intro pins s σ H Q I hq
 refine wpAny_Tuple_spliced (thn (h pos pins s σ H _ I hq) fun us s1 ⟨xs,H1,I1,r,z,q⟩=>⟨by rw[<- r.length]; exact z,?_⟩)
 have hf:H1 s1.heap.objs.size=none:=I1.hok.fresh (Xd _)
 refine⟨.ref s1.heap.objs.size,upd H1 s1.heap.objs.size (.tup xs),I1.laid (t':=s1.toks) (fun b u e=>Xa _ e) (Xd _) ?_,rfl,q _ hf⟩
 exact⟨z,us,r,⟨_,Xe _ rfl,rfl,⟨_,rfl⟩,rfl⟩⟩
theorem Ydb (h:PA X es t):PE X (.List es pos) (tLst t):=by
 intro pins s σ H Q I hq
 refine wpAny_List_spliced (thn (h pos pins s σ H _ I hq) fun us s1 ⟨xs,H1,I1,r,z,q⟩=>⟨by rw[<- r.length]; exact z,?_⟩)
 have hf:H1 s1.heap.objs.size=none:=I1.hok.fresh (Xd _)
 refine⟨.ref s1.heap.objs.size,upd H1 s1.heap.objs.size (.lst xs),I1.laid (t':=s1.toks) (fun b u e=>Xa _ e) (Xd _) ?_,rfl,q _ hf⟩
 exact⟨z,us,0,r,Xe _ rfl⟩
end
nonrec abbrev Sp:=List V->Hp->VK->XK->Prop
nonrec abbrev CXT:=List Env->Hp->Vd->XK->Vb->Vd->Prop
structure Env0 (P:Vh) (w:Vu) (K:Xb) (mg:Str->Option Vb) (base:Vz) (A:Vt) (outer:List Env) (s:Vd) (H:Hp):Prop where
 frames:A.frames=some outer
 mod:Mod K mg base
 bs:∀ b o,base.get? b=some o->s.heap.get? b=some o/\H b=none
 bsz:base.objs.size<=s.heap.objs.size
 funs:s.heap.FunFrames base outer
 frf:∀ b∈frs outer,H b=none
 hok:HOk P w H s.heap
 bare:Ucj s.gens
def CE (outer:List Env) (P:Vh) (w:Vu) (H:Hp) (s:Vd) (Q:VK) (u:Vb) (s':Vd):Prop :=
 ∃ v H',s'.os=s.os/\Ucj s'.gens/\Un (frs outer) [] H H' s.heap s'.heap/\HOk P w H' s'.heap/\Zcg v u/\Q v H'
def CR (CX:CXT) (outer:List Env) (P:Vh) (w:Vu) (H:Hp) (s:Vd) (Q:VK) (E:XK) (r:Result) (s':Vd):Prop :=
 match r with
 | .ok (.ret u)=>CE outer P w H s Q u s'
 | .ok _=>False
 | .error e=>CX outer H s E e s'
structure FnOk (P:Vh) (w:Vu) (K:Xb) (mg:Str->Option Vb) (base:Vz) (CX:CXT) (k:Nat) (f:Ve) (fd:Uaq) (ps:List Str) (sp:Sp):Prop where
 len:∀ vs H Q E,sp vs H Q E->vs.length=ps.length
 run:∀ (A:Vt) (outer:List Env) (s:Vd) (H:Hp) (args:Args) (us:List Vb) (vs:List V) (Q:VK) (E:XK),Room k A->Env0 P w K mg base A outer s H->BindsTo s fd args (ps.zip us)->Zb8 vs us->sp vs H Q E ->
  Ucn (Vm P w) A (.call (.ref f) args) (CR CX outer P w H s Q E) s
section
variable {X:Cx} {pins:List (Ve×Obj)} {σ:St} {H:Hp} {s s':Vd}
theorem Inv.env0 (I:Inv X pins σ H s):Env0 X.prog X.w X.K X.mg X.base X.A X.stack s H :=
 ⟨I.ok.frames,I.ok.mod,I.bs,Waf I.ok.bsz I.sz,I.stack,I.stkFree,I.hok,I.bare⟩
theorem Inv.after {Q:VK} {u:Vb} (I:Inv X pins σ H s) (h:CE X.stack X.prog X.w H s Q u s'):EP X pins σ Q u s':=by
 obtain⟨v,H',os,bare,un,hok,r,q⟩:=h
 obtain⟨hh,g,d,t,os'⟩:=s'
 obtain rfl:os'=s.os:=os
 exact⟨v,H',I.call (h':=hh) (g':=g) (d':=d) (t':=t) (ch:=[]) un hok bare (fun b z=>absurd z (by simp)),r,q⟩
end
nonrec def Ya9 (sp:Sp) (dvs:List V) (E:XK) (t:TA):TE:=fun σ H Q=>t σ H fun vs H1=>sp (vs++dvs) H1 Q E
def Znx (K:Xb) (fd:Uaq) (ps:List Str) (ds:List Vb):Prop :=
 ∀ (s:Vd) (us:List Vb),K.In s.heap->(us++ds).length=ps.length->BindsTo s fd ⟨us,[]⟩ (ps.zip (us++ds))
theorem Znx.all {K:Xb} {fd:Uaq} {ps:List Str} (h:∀ us:List Vb,us.length=ps.length->Uby fd ⟨us,[]⟩=pure (ps.zip us)):Znx K fd ps []:=fun s us _ hl=>by
 rw[Waa] at hl ⊢
 exact .of_eq (h us hl)
def Zu8 (CX:CXT) (X:Cx) (E:XK):Prop:=∀ (pins:List (Ve×Obj)) (σ:St) (H:Hp) (s:Vd) (e:Vb) (s':Vd),Inv X pins σ H s->CX X.stack H s E e s'->X.xe e s'
section
variable {X:Cx} {CX:CXT} {k:Nat} {f C:Ve} {fd:Uaq} {ps:List Str} {sp:Sp} {dvs:List V} {ds:List Vb} {E:XK} {x m:Str} {p pos apos:Pos} {e o:Vv} {es:List Vv} {ta:TE} {t:TA}
theorem Zxe {pins:List (Ve×Obj)} {σ:St} {H:Hp} {s:Vd} {Q:VK} {us:List Vb} {vs:List V} (F:FnOk X.prog X.w X.K X.mg X.base CX k f fd ps sp) (hr:Room k X.A) (hb:Znx X.K fd ps ds) (hd:Zb8 dvs ds) (hx:Zu8 CX X E)
  (I:Inv X pins σ H s) (r:Zb8 vs us) (h:sp (vs++dvs) H Q E):Vf (Vm X.prog X.w) X.A (call (.ref f) us) (EP X pins σ Q) X.xe s:=by
 have r2:Zb8 (vs++dvs) (us++ds):=r.append hd
 have hl:(us++ds).length=ps.length:=by rw[<- r2.length]; exact F.len _ _ _ _ h
 refine wpAny_call (Uax (F.run X.A X.stack s H ⟨us,[]⟩ (us++ds) (vs++dvs) Q E hr I.env0 (hb s us I.kIn hl) r2 h) fun r s' hq=>?_)
 cases r with
 | error e=>exact hx pins σ H s e s' I hq
 | ok fl =>
  cases fl with
  | ret u=>exact I.after hq
  | next=>exact Ul hq
  | brk=>exact Ul hq
  | cont=>exact Ul hq
theorem Yae (F:FnOk X.prog X.w X.K X.mg X.base CX k f fd ps sp) (hr:Room k X.A) (hg:Gl X x) (hm:X.mg x=some (.ref f)) (hk:Wcd X.K (.ref f)=true) (hb:Znx X.K fd ps ds) (hd:Zb8 dvs ds) (hx:Zu8 CX X E)
  (ha:PA X (e::es) t) (hdb:(x==("__debug__" : Str))=false:=by decide) (he:Vg (e::es) X.env=(false,eval e X.env)::Vg es X.env:=by rfl) (hpl:(Ual pos (Vg es X.env)).any (·.1)=false:=by rfl) :
  PE X (.Call (.Name x p) (e::es) [] pos) (Ya9 sp dvs E t):=by
 intro pins s σ H Q I h
 refine Uap (Zts I hg hm ?_ hdb)
 refine Wfb (h₀:=X.base) I.ok.mod.kin hk (thn (ha pos pins s σ H _ I h) fun us s1 ⟨vs,H1,I1,r,q⟩=>⟨I1.kIn,?_⟩) he hpl
 exact Zxe F hr hb hd hx I1 r q
end
structure FnScope (N P:List Str) (sc:Ubm):Prop where
 kind:sc.kind=.function
 co:sc.isCoroutine=false
 gen:sc.isGenerator=false
 nd:N.Nodup
 pre:N.take P.length=P
 par:∀ x∈P,sc.names.lookup x=some .local\/sc.names.lookup x=some .cell
 nofree:∀ y∈sc.names,y.2≠.free
theorem Zlx {kindOf:Str->Option Ubb} {x:Str}:∀ {binds:List (Str×Vb)} {m:Str->Option Vb},(∀ v,(x,v)∉binds)->bindL kindOf binds m x=m x
 | [],_,_=>rfl
 | (n,v)::r,m,h=>by
  unfold bindL
  rw[Zlx fun w hw=>h w (Wak _ hw)]
  split
  ·have:x≠n:=by rintro rfl; exact h v Wcf
   simp[this]
  ·rfl
theorem Zm6 {kindOf:Str->Option Ubb} {x:Str}:∀ {binds:List (Str×Vb)} {m:Str->Option Vb},(∀ v,(x,v)∉binds)->bindC kindOf binds m x=m x
 | [],_,_=>rfl
 | (n,v)::r,m,h=>by
  unfold bindC
  rw[Zm6 fun w hw=>h w (Wak _ hw)]
  split
  ·rfl
  ·have:x≠n:=by rintro rfl; exact h v Wcf
   simp[this]
theorem Zl3 {kindOf:Str->Option Ubb} {x:Str} {v:Vb}:∀ {P:List Str} {vs:List Vb} {i:Nat} {m:Str->Option Vb},P.Nodup->P[i]? = some x->vs[i]? = some v->kindOf x=some .local ->
  bindL kindOf (P.zip vs) m x=some v
 | [],_,_,_,_,h,_,_=>by simp at h
 | _::_,[],_,_,_,_,h,_=>by simp at h
 | p::P,w::vs,0,m,nd,h1,h2,hk=>by
  simp at h1 h2; subst h1; subst h2
  show bindL kindOf ((p,w)::P.zip vs) m p=_
  unfold bindL
  rw[Zlx fun v hv=>(Wbk.mp nd).1 (Wcs hv).1,if_pos hk]
  simp
 | p::P,w::vs,i+1,m,nd,h1,h2,hk=>by
  show bindL kindOf ((p,w)::P.zip vs) m x=_
  unfold bindL
  exact Zl3 (i:=i) (Wbk.mp nd).2 (by simpa using h1) (by simpa using h2) hk
theorem Zm4 {kindOf:Str->Option Ubb} {x:Str} {v:Vb}:∀ {P:List Str} {vs:List Vb} {i:Nat} {m:Str->Option Vb},P.Nodup->P[i]? = some x->vs[i]? = some v->kindOf x≠some .local ->
  bindC kindOf (P.zip vs) m x=some v
 | [],_,_,_,_,h,_,_=>by simp at h
 | _::_,[],_,_,_,_,h,_=>by simp at h
 | p::P,w::vs,0,m,nd,h1,h2,hk=>by
  simp at h1 h2; subst h1; subst h2
  show bindC kindOf ((p,w)::P.zip vs) m p=_
  unfold bindC
  rw[Zm6 fun v hv=>(Wbk.mp nd).1 (Wcs hv).1,if_neg hk]
  simp
 | p::P,w::vs,i+1,m,nd,h1,h2,hk=>by
  show bindC kindOf ((p,w)::P.zip vs) m x=_
  unfold bindC
  exact Zm4 (i:=i) (Wbk.mp nd).2 (by simpa using h1) (by simpa using h2) hk
nonrec def start (N:List Str) (vs:List V):St:=vs.map some++Xs (N.length - vs.length) none
nonrec def Zln (CX:CXT) (P:Vh) (w:Vu) (K:Xb) (mg:Str->Option Vb) (base:Vz) (N:List Str) (qual:Str) (scope:Ubm) (f:Ve) (cd:Vb) (A:Vt) (outer:List Env) (s:Vd) (H:Hp) (E:XK):Cx where
 prog:=P
 w:=w
 K:=K
 mg:=mg
 base:=base
 A:=A.deeper (Ubc qual scope s.heap.objs.size f cd)
 N:=N
 s₀:=s
 H₀:=H
 env:=Ubc qual scope s.heap.objs.size f cd
 outer:=outer
 stack:=Ubc qual scope s.heap.objs.size f cd::outer
 ex:=[]
 calm:=true
 fn:=fun _=>true
 pn:=[]
 xe:=fun e s'=>Vf (Vm P w) (A.deeper (Ubc qual scope s.heap.objs.size f cd)) (leaving (Ubc qual scope s.heap.objs.size f cd) e) (fun _ s''=>CX outer H s E e s'') (fun e' s''=>CX outer H s E e' s'') s'
theorem Zh4 {sc:Ubm} {n:Nat} {x:Str} (h:sc.names.lookup x=some .cell):∃ c,(Uee n sc.names []).lookup x=some c:=by
 have q:=Wcz sc.names n [] (.inl h)
 exact Waj.mp q
theorem Zlv {CX:CXT} {P:Vh} {w:Vu} {K:Xb} {mg:Str->Option Vb} {base:Vz} {N ps:List Str} {qual:Str} {scope:Ubm} {f:Ve} {cd:Vb} {A:Vt} {outer:List Env} {s s1:Vd} {H:Hp} {E:XK} {us:List Vb} {vs:List V}
  (S:FnScope N ps scope) (hd:A.handled=none) (e0:Env0 P w K mg base A outer s H) (hl:vs.length=ps.length) (r:Zb8 vs us)
  (x:InCallC s s.heap.objs.size (bindL (Ubc qual scope s.heap.objs.size f cd).kindOf (ps.zip us) fun _=>none) (Uee (s.heap.objs.size+1) scope.names []) (bindC (Ubc qual scope s.heap.objs.size f cd).kindOf (ps.zip us) fun _=>none) s1) :
  Inv (Zln CX P w K mg base N qual scope f cd A outer s H E) [] (start N vs) H s1:=by
 have hpl:ps.length<=N.length:=by have:=congrArg Wbo S.pre; rw[Way] at this; omega
 obtain⟨h1,tk,rfl,hk⟩:=x.done
 have noA:∀ b:Ve,b∉(Zln CX P w K mg base N qual scope f cd A outer s H E).ex:=fun b z=>absurd (show b∈([]:List Ve) from z) (by simp)
 refine⟨⟨e0.mod,S.kind,rfl,rfl,Xd _,fun y z c h1 h2=>?_,fun y hy=>?_,fun y c _ h=>?_,fun _=>hd,Tcb e0.frames,.inr ⟨rfl,rfl⟩,fun b z=>absurd z (noA b),e0.bs,e0.bsz,fun b _ _=>noA b,fun b z=>absurd z (noA b),e0.funs,e0.frf⟩,
  rfl,e0.bare,Un.kept hk,⟨_,x.toInCall.ns,fun i y v h1 h2 h3=>?_⟩,fun y c h=>⟨_,x.cell y c h⟩,e0.hok.fresh (Xd _),fun y c h=>?_,fun p hp=>absurd (show p∈([]:List (Ve×Obj)) from hp) (by simp),e0.hok.kept hk,?_⟩
 ·exact name_of_addr x.apart (Uj h1) (Uj h2)
 ·have hy:scope.names.lookup y=some .cell\/scope.names.lookup y=some .free:=hy
  rcases hy with hy | hy
  ·exact Zh4 hy
  ·exact absurd rfl (S.nofree _ (Uj hy))
 ·exact Wdu (x.above y c (Uj h))
 ·have hi:i<vs.length:=by
   unfold start at h2
   by_cases hi:i<vs.length
   ·exact hi
   ·rw[Xo (by simpa using hi)] at h2
    rw[Wbp] at h2
    split at h2<;>cases h2
  have ha:vs[i]? = some v:=by
   unfold start at h2
   rw[Xg (by simpa using hi),Xp] at h2
   cases e:vs[i]? with
   | none=>rw[e] at h2; cases h2
   | some a=>rw[e] at h2; cases h2; rfl
  obtain⟨u,hu,rv⟩:=r.get ha
  have hp:ps[i]? = some y:=by
   rw[<- S.pre,Wbh (by omega)]; exact h1
  have ndP:ps.Nodup:=by rw[<- S.pre]; exact S.nd.sublist (Wfh _ _)
  refine⟨u,rv,?_⟩
  rcases S.par y (Xu hp) with k | k
  ·exact .inl ⟨k,Zl3 ndP hp hu k⟩
  ·obtain⟨c,e⟩:=Zh4 (n:=s.heap.objs.size+1) k
   refine .inr ⟨.inl k,c,e,?_⟩
   have q:=x.cell y c e
   rw[Zm4 ndP hp hu (by show scope.names.lookup y≠_; rw[k]; decide)] at q
   exact q
 ·exact .inl (e0.hok.fresh (Wdu (x.above y c (Uj h))))
 ·unfold start
  show _=N.length
  rw[Xl,Xk,Wel]
  omega
theorem fn_of {CX:CXT} {P:Vh} {w:Vu} {K:Xb} {mg:Str->Option Vb} {base:Vz} {k:Nat} {f:Ve} {name qual:Str} {params:Uef} {body:List Uae} {scope:Ubm} {dV kV doc pm cdv ct oc:Vb} {an od:Option Ve}
  {osl:Array (Option Vb)} {N ps:List Str} {sp:Sp} (lk:K.lookup f=some ⟨oc,od,.func (Wbc name qual params body scope dV kV doc pm an cdv ct),osl⟩) (hcd:Wcn K cdv qual=true) (S:FnScope N ps scope)
  (len:∀ vs H Q E,sp vs H Q E->vs.length=ps.length)
  (hbody:∀ (A:Vt) (outer:List Env) (s:Vd) (H:Hp) (vs:List V) (Q:VK) (E:XK),Room k (A.deeper (Ubc qual scope s.heap.objs.size f cdv))->sp vs H Q E ->
   ∃ t,PSs (Zln CX P w K mg base N qual scope f cdv A outer s H E) body t/\t { nx:=fun _ H'=>Q .non H',rt:=Q } (start N vs) H) :
  FnOk P w K mg base CX (k+1) f (Wbc name qual params body scope dV kV doc pm an cdv ct) ps sp:=by
 refine⟨len,fun A outer s H args us vs Q E hr e0 hb r hsp=>?_⟩
 have hl:=len _ _ _ _ hsp
 have KX:K.In s.heap:=e0.mod.kin.keeps fun b o e=>(e0.bs b o e).1
 have lim:s.heap.NoLimit:=e0.mod.nolimit.keeps fun b o e=>(e0.bs b o e).1
 have hkind:∀ y∈ps.zip us,scope.names.lookup y.1=some .local\/(scope.names.lookup y.1=some .cell/\((Uee (s.heap.objs.size+1) scope.names []).lookup y.1).isSome=true):=fun⟨n,v⟩ hy=>by
  rcases S.par n (Wcs hy).1 with q | q
  ·exact .inl q
  ·exact .inr ⟨q,Wcz _ _ _ (.inl q)⟩
 refine Uco hr.depth (KX _ _ lk) rfl S.co S.gen rfl (Wfc KX hcd) (hb _ _ _ _ ?_)
 refine Ubq S.kind hkind fun env he s1 x=>?_
 subst he
 refine⟨lim.keeps x.toInCall.keep,codeAny_func ?_⟩
 obtain⟨t,ht,hq⟩:=hbody A outer s H vs Q E (hr.deeper _) hsp
 have I:Inv (Zln CX P w K mg base N qual scope f cdv A outer s H E) [] (start N vs) H s1:=Zlv S hr.hd e0 hl r x
 refine Uan (ht [] s1 (start N vs) H _ I hq) (fun fl s' hs=>?_) fun e s' hs=>hs
 have fin:∀ {σ':St} {H':Hp} {v:V} {u:Vb},Inv (Zln CX P w K mg base N qual scope f cdv A outer s H E) [] σ' H' s'->Zcg v u->Q v H'->CE outer P w H s Q u s' :=
  fun {σ' H' v u} J rv q=>⟨v,H',J.os,J.bare,J.base,J.hok,rv,q⟩
 cases fl with
 | ret u =>
  obtain⟨v,σ',H',J,rv,q⟩:=hs
  exact fin J rv q
 | next =>
  obtain⟨σ',H',J,q⟩:=hs
  exact fin (v:=V.non) (u:=Uq) J rfl q
 | brk =>
  obtain⟨_,_,_,q⟩:=hs
  exact Ul q
 | cont =>
  obtain⟨_,_,_,q⟩:=hs
  exact Ul q
section
variable {X:Cx} {x:Str} {p pos:Pos} {e:Vv} {es:List Vv} {t:TA} {id T:String} {r:List V->Hp->VK->Prop}
nonrec def tCB (r:List V->Hp->VK->Prop) (t:TA):TE:=fun σ H Q=>t σ H fun vs H1=>r vs H1 Q
theorem Zw3 (hc:Zjs X (.builtin id) r) (hg:Gl X x) (hm:X.mg x=none) (hv:Vq x=some (.builtin id)) (ha:PA X (e::es) t) (hn:x ≠ "__name__" := by decide) (hdb:(x==("__debug__" : Str))=false:=by decide)
  (he:Vg (e::es) X.env=(false,eval e X.env)::Vg es X.env:=by rfl) (hpl:(Ual pos (Vg es X.env)).any (·.1)=false:=by rfl):PE X (.Call (.Name x p) (e::es) [] pos) (tCB r t):=by
 intro pins s σ H Q I h
 refine Uap (Zec I hg hm hv ?_ hn hdb)
 exact PyProof.Rows.callWith_builtin1 (thn (ha pos pins s σ H _ I h) fun us s1 ⟨vs,H1,I1,r1,q1⟩=>hc pins s1 σ H1 vs us Q I1 r1 q1) he hpl
theorem Zsm (hc:Zjs X (.type T) r) (hg:Gl X x) (hm:X.mg x=none) (hv:Vq x=some (.type T)) (ha:PA X (e::es) t) (hn:x ≠ "__name__" := by decide) (hdb:(x==("__debug__" : Str))=false:=by decide)
  (he:Vg (e::es) X.env=(false,eval e X.env)::Vg es X.env:=by rfl) (hpl:(Ual pos (Vg es X.env)).any (·.1)=false:=by rfl):PE X (.Call (.Name x p) (e::es) [] pos) (tCB r t):=by
 intro pins s σ H Q I h
 refine Uap (Zec I hg hm hv ?_ hn hdb)
 exact Ui (thn (ha pos pins s σ H _ I h) fun us s1 ⟨vs,H1,I1,r1,q1⟩=>hc pins s1 σ H1 vs us Q I1 r1 q1) he hpl
end
end L2
namespace HT
open PySem PyProof.Rows
section
variable {prog:Vh} {w:Vu} {A:Vt} {E:Vb->Vd->Prop} {s:Vd}
theorem cat_tup {t b:Ve} {vs ws:List Vb} {Q:Vb->Vd->Prop} (ht:Uem s.heap t vs.toArray) (hb:Uem s.heap b ws.toArray) (hv:vs≠[])
  (h1:ws=[]->Q (.ref t) s) (h2:ws≠[]->Q (.ref s.heap.objs.size) { s with heap:=s.heap.push { cls:=.type "tuple",data:=.seq (vs++ws).toArray } })
  (hsz:vs.length+ws.length<=sizeLine):Vf (Vm prog w) A (Vy .Add (.ref t) (.ref b)) Q E s:=by
 obtain⟨⟨cls,dd,data,sl⟩,ho,hc,n,hd⟩:=id ht
 obtain⟨⟨cls2,dd2,data2,sl2⟩,ho2,hc2,n2,hd2⟩:=id hb
 simp only at hc hd hc2 hd2
 subst hc hd hc2 hd2
 have e:vs.toArray++ws.toArray=(vs++ws).toArray:=by simp
 by_cases hw:ws=[]
 ·exact Udw ⟨_,ho,rfl⟩ ⟨_,ho2,rfl⟩ Ucc Udo Tap Tan (Tak _ _)
   (tuple_addW1 t b vs.toArray ws.toArray n n2 dd dd2 sl sl2 (by simpa using hv) (by simp[hw])) ⟨ho,ho2,h1 hw⟩
 ·refine Udw ⟨_,ho,rfl⟩ ⟨_,ho2,rfl⟩ Ucc Udo Tap Tan (Tak _ _)
   (tuple_addW2 t b vs.toArray ws.toArray n n2 dd dd2 sl sl2 (by simpa using hv) (by simpa using hw) (by rw[Xm,Xm]; exact hsz)) ⟨ho,ho2,?_⟩
  rw[e]
  exact h2 hw
nonrec def sIx (n d:Nat):Option Int->Nat
 | none=>d
 | some v=>if v<0 then (v+(n:Int)).toNat else min v.toNat n
theorem Yck (n d:Nat) (hd:d<=n) (o:Option Int):sIx n d o<=n:=by
 cases o with
 | none=>exact hd
 | some v =>
  show (if v<0 then (v+(n:Int)).toNat else min v.toNat n)<=n
  by_cases hv:v<0
  ·rw[if_pos hv]; omega
  ·rw[if_neg hv]; exact Nat.min_le_right _ _
theorem Zt4 (v:Int) (n d:Nat):(if v<0 then max (v+(n:Int)) 0 else min v (n:Int))=((sIx n d (some v):Nat):Int):=by
 show (if v<0 then max (v+(n:Int)) 0 else min v (n:Int))=(((if v<0 then (v+(n:Int)).toNat else min v.toNat n):Nat):Int)
 by_cases hv:v<0
 ·simp only[if_pos hv]; omega
 ·simp only[if_neg hv]; omega
theorem Zql (lo hi:Option Int) (n:Nat):Tai lo hi 1 (n:Int)=(((sIx n 0 lo:Nat):Int),((sIx n n hi:Nat):Int)):=by
 have h1:¬ ((1:Int)<0):=by omega
 unfold Tai
 simp only[h1,if_false]
 refine Prod.ext ?_ ?_
 ·cases lo with
  | none=>rfl
  | some v=>exact Zt4 v n 0
 ·cases hi with
  | none=>rfl
  | some v=>exact Zt4 v n n
theorem Zrh (i j:Nat):Uv (i:Int) (j:Int) 1=j - i:=by
 unfold Uv
 have h1:(1:Int) > 0:=by omega
 simp only[h1,if_true,Int.ediv_one]
 split<;>omega
theorem Zjz {v:Vb} {o:Option Int} {Q:Option Int->Vd->Prop} (p:Udp v o) (h:Q o s):Vf (Vm prog w) A (Builtin.Slice.slicePartIndex v) Q E s:=by
 cases p with
 | none=>exact slicePart_none h
 | int i t=>exact slicePart_int h
theorem sliceApplied_gen {sl:Ve} {vl vu:Vb} {lo hi:Option Int} {n:Nat} {Q:Int×Int×Nat->Vd->Prop} (hs:s.heap.IsSliceOf sl vl vu .none) (pl:Udp vl lo) (pu:Udp vu hi)
  (h:Q (((sIx n 0 lo:Nat):Int),1,sIx n n hi - sIx n 0 lo) s):Vf (Vm prog w) A (Tbf (.ref sl) (pure (n:Int))) Q E s:=by
 obtain⟨os,hos,hcs,hds⟩:=id hs
 unfold Tbf Builtin.Slice.sliceFields
 refine Va (Va (Vn hos hds (x:=vl) rfl (Va (Vn hos hds (x:=vu) rfl (Va (Vn hos hds (x:=.none) rfl (Vc ?_)))))))
 refine Va (slicePart_none ?_)
 show Vf _ _ (if ((1:Int)==0)=true then _ else _) _ _ s
 rw[if_neg (by decide)]
 refine Va (Zjz pl (Va (Zjz pu (Va (Vc ?_)))))
 show Vf _ _ (match Tai lo hi 1 (n:Int) with | (lo,hi)=>pure (lo,(1:Int),Uv lo hi 1)) _ _ s
 rw[Zql lo hi n]
 show Vf _ _ (pure (((sIx n 0 lo:Nat):Int),(1:Int),Uv ((sIx n 0 lo:Nat):Int) ((sIx n n hi:Nat):Int) 1)) _ _ s
 rw[Zrh]
 exact Vc h
theorem Zv7 (xs:Array Vb) (i k:Nat):((Wcp k).filterMap fun(m:Nat)=>xs[((i:Int)+(m:Int)*1).toNat]?).toArray=((xs.toList.drop i).take k).toArray:=by
 have e:(fun(m:Nat)=>xs[((i:Int)+(m:Int)*1).toNat]?)=fun m=>xs[i+m]? := by
  funext m
  have:((i:Int)+(m:Int)*1).toNat=i+m:=by omega
  rw[this]
 rw[e]
 have:=pick_run xs i k
 rw[List.filterMap_map] at this
 have e2:((fun x=>xs[x]?) ∘ fun x=>i+x)=fun m=>xs[i+m]? := rfl
 rw[e2] at this
 rw[this]
theorem getItem_tuple_cut {t sl:Ve} {items:Array Vb} {vl vu:Vb} {lo hi:Option Int} {Q:Vb->Vd->Prop} (ht:Uem s.heap t items) (hs:s.heap.IsSliceOf sl vl vu .none) (pl:Udp vl lo) (pu:Udp vu hi)
  (hw:¬ (sIx items.size 0 lo=0/\sIx items.size items.size hi=items.size))
  (h:Q (.ref s.heap.objs.size) { s with heap:=s.heap.push { cls:=.type "tuple",data:=.seq ((items.toList.drop (sIx items.size 0 lo)).take (sIx items.size items.size hi - sIx items.size 0 lo)).toArray } })
  (hsz:items.size<=sizeLine):Vf (Vm prog w) A (Udk (.ref t) (.ref sl)) Q E s:=by
 have htake:sizeOk (.seq ((items.toList.drop (sIx items.size 0 lo)).take (sIx items.size items.size hi - sIx items.size 0 lo)).toArray):=by
  show ((items.toList.drop (sIx items.size 0 lo)).take (sIx items.size items.size hi - sIx items.size 0 lo)).toArray.size<=sizeLine
  rw[Xm,Way,Wef,Wdn]
  omega
 have hj:sIx items.size items.size hi<=items.size:=Yck _ _ (Xd _) hi
 obtain⟨os,hos,hcs,hds⟩:=id hs
 have hTs:s.TypeIs (.ref sl) "slice" := ⟨os,hos,hcs⟩
 unfold Udk
 try with_reducible refine Vw ?_
 first | refine Va (Vc ?_) | skip
 refine Va (wpAny_sequenceKey ht.typeIs (by decide) ?_)
 refine Va (Vi (name:=Ua "__getitem__") ht.typeIs Uf
  (Vp Uf ht.typeIs entry_tuple_getitem ?_ (args_tuple_getitem _ _)))
 show Vf _ _ (Tbg (.ref t) >>= _) _ _ s
 refine Va (tupleItemsOf_ ht ?_)
 refine Va (Ucp hTs ?_)
 rw[if_pos (by decide)]
 refine Va (sliceApplied_gen hs pl pu ?_)
 have hno:¬ ((((sIx items.size 0 lo:Nat):Int)==0&&(1:Int)==1&&(sIx items.size items.size hi - sIx items.size 0 lo)==items.size)=true):=by
  intro q
  rw[Wam,Wam] at q
  have q1:((sIx items.size 0 lo:Nat):Int)=0:=eq_of_beq q.1.1
  have q2:sIx items.size items.size hi - sIx items.size 0 lo=items.size:=eq_of_beq q.2
  exact hw ⟨by omega,by omega⟩
 show Vf _ _ (if (((sIx items.size 0 lo:Nat):Int)==0&&(1:Int)==1&&(sIx items.size items.size hi - sIx items.size 0 lo)==items.size)=true then _ else _) _ _ s
 rw[if_neg hno,Zv7]
 first
  | exact Va (m:=Ux _) (Vs (Vc ⟨_,rfl,Vc h⟩) htake)
  | exact Va (m:=Ux _) (Vs (Va (Vc (Vc ⟨_,rfl,Vc h⟩))) htake)
  | exact Va (Va (m:=Ux _) (Vs (Vc (Vc ⟨_,rfl,Vc h⟩)) htake))
  | exact Va (Va (m:=Ux _) (Vs (Vc ⟨_,rfl,Vc h⟩) htake))
end
end HT
namespace L2
open PySem PySem.Spec PyProof.Rows
nonrec abbrev TO:=St->Hp->(Option Int->Hp->Prop)->Prop
def PO (X:Cx) (e:Option Vv) (t:TO):Prop :=
 ∀ (pins:List (Ve×Obj)) (s:Vd) (σ:St) (H:Hp) (Q:Option Int->Hp->Prop),Inv X pins σ H s->t σ H Q ->
  Vf (Vm X.prog X.w) X.A (evalPart e X.env) (fun u s'=>∃ o H',Inv X pins σ H' s'/\Udp u o/\Q o H') X.xe s
nonrec def Zzb:TO:=fun _ H Q=>Q none H
nonrec def tPart (t:TE):TO:=fun σ H Q=>t σ H fun x H1=>∃ i,x=.int i/\Q (some i) H1
theorem Zjw {ns:List Int}:∀ {us:List Vb},Zb8 (ns.map V.int) us->Ubd us ns:=by
 induction ns with
 | nil=>intro us r; rw[Wde] at r; cases r; exact .nil
 | cons n ns ih =>
  intro us r
  rw[Xq] at r
  cases r with
  | cons r1 r2 =>
   obtain⟨t,e⟩:=r1
   subst e
   exact .cons n t (ih r2)
section
variable {X:Cx} {e:Vv} {te:TE} {lo hi:Option Vv} {tl th:TO} {pos p2:Pos}
theorem Zyy:PO X none Zzb:=by
 intro pins s σ H Q I h
 rw[evalPart_none]
 exact Vc ⟨none,H,I,.none,h⟩
theorem Zzv (h:PE X e te):PO X (some e) (tPart te):=by
 intro pins s σ H Q I hw
 rw[evalPart_some]
 refine thn (h pins s σ H _ I hw) fun u s1 zz=>?_
 obtain⟨x,H1,I1,r1,q1⟩:=zz
 obtain⟨i,rfl,q⟩:=q1
 obtain⟨t,rfl⟩:=r1
 exact⟨some i,H1,I1,.int i t,q⟩
def SlR (X:Cx) (r:V->Option Int->Option Int->Hp->VK->Prop):Prop :=
 ∀ (pins:List (Ve×Obj)) (s:Vd) (σ:St) (H:Hp) (x:V) (v vl vu:Vb) (lo hi:Option Int) (sl:Ve) (Q:VK),Inv X pins σ H s->Zcg x v->s.heap.IsSliceOf sl vl vu .none->Udp vl lo->Udp vu hi->r x lo hi H Q ->
  ∃ T id,typeLookup (.type T) "__getitem__" = pure (some (.builtin id))/\s.TypeIs v T/\Vf (Vm X.prog X.w) X.A (Udk v (.ref sl)) (EP X pins σ Q) X.xe s
nonrec def tSl (r:V->Option Int->Option Int->Hp->VK->Prop) (te:TE) (tl th:TO):TE:=fun σ H Q=>te σ H fun x H1=>tl σ H1 fun l H2=>th σ H2 fun u H3=>r x l u H3 Q
theorem Zv1 {r:V->Option Int->Option Int->Hp->VK->Prop} (hr:SlR X r) (he:PE X e te) (hl:PO X lo tl) (hu:PO X hi th):PE X (.Subscript e (.Slice lo hi none p2) pos) (tSl r te tl th):=by
 intro pins s σ H Q I h
 refine Subscript_ (thn (he pins s σ H _ I h) fun v s1 zz=>?_)
 obtain⟨x,H1,I1,r1,q1⟩:=zz
 refine wpAny_Slice (thn (hl pins s1 σ H1 _ I1 q1) fun vl s2 ⟨l,H2,I2,pl,q2⟩=>thn (hu pins s2 σ H2 _ I2 q2) fun vu s3 zz=>?_)
 obtain⟨u,H3,I3,pu,q3⟩:=zz
 rw[evalPart_none]
 refine Vc ?_
 have I4:Inv X pins σ H3 { s3 with heap:=s3.heap.push { cls:=.type "slice",data:=.fields #[vl,vu,.none] } }:=I3.kept (t':=s3.toks) fun b ob q=>Xa _ q
 obtain⟨T,id,hT,ht,hg⟩:=hr pins { s3 with heap:=s3.heap.push { cls:=.type "slice",data:=.fields #[vl,vu,.none] } } σ H3 x v vl vu l u s3.heap.objs.size Q I4 r1 (Heap.IsSliceOf.new ..) pl pu q3
 show Vf (Vm X.prog X.w) X.A (subscriptTail e (.Slice lo hi none p2) v (.ref s3.heap.objs.size)) (EP X pins σ Q) X.xe { s3 with heap:=s3.heap.push { cls:=.type "slice",data:=.fields #[vl,vu,.none] } }
 exact tail_any (ops:=[.ref s3.heap.objs.size,v]) ht hT hg (by with_unfolding_all rfl)
nonrec def Zya (xs:List V) (lo hi:Option Int):List V:=(xs.drop (HT.sIx xs.length 0 lo)).take (HT.sIx xs.length xs.length hi - HT.sIx xs.length 0 lo)
theorem Zet (xs:List V) (lo hi:Option Int):(Zya xs lo hi).length<=xs.length:=by
 unfold Zya
 rw[Way,Wef]
 omega
nonrec def rSlT (K:Xb):V->Option Int->Option Int->Hp->VK->Prop:=fun x lo hi H Q=>∃ a xs,x=.ref a/\SqT K H a xs /\
 ¬ (HT.sIx xs.length 0 lo=0/\HT.sIx xs.length xs.length hi=xs.length)/\∀ p,H p=none->Q (.ref p) (upd H p (.tup (Zya xs lo hi)))
theorem Ya8:SlR X (rSlT X.K):=by
 intro pins s σ H x v vl vu lo hi sl Q I rx hs pl pu h
 obtain⟨a,xs,rfl,hx,hw,q⟩:=h
 cases rx
 obtain⟨its,r,ht,hz⟩:=I.tuple hx
 have hlen:its.toArray.size=xs.length:=by rw[Xm]; exact r.length.symm
 refine⟨"tuple",_,Uf.lookup,ht.typeIs,?_⟩
 refine HT.getItem_tuple_cut ht hs pl pu (by rw[hlen]; exact hw) ?_ (by rw[hlen]; exact hz)
 rw[hlen]
 refine⟨.ref s.heap.objs.size,_,I.laid (t':=s.toks) (o:=.tup (Zya xs lo hi)) (fun b ob q=>Xa _ q) (Xd _) ?_,rfl,q _ (I.hok.fresh (Xd _))⟩
 exact⟨Waf (Zet xs lo hi) hz,_,(r.drop (HT.sIx xs.length 0 lo)).take (HT.sIx xs.length xs.length hi - HT.sIx xs.length 0 lo),Zk5.new _ _⟩
nonrec def rCatT (K:Xb):R2:=fun x y H Q=>∃ a b xs ys,x=.ref a/\y=.ref b/\SqT K H a xs/\SqT K H b ys/\xs≠[]/\xs.length+ys.length<=sizeLine /\
 (ys=[]->Q (.ref a) H)/\(ys≠[]->∀ p,H p=none->Q (.ref p) (upd H p (.tup (xs++ys))))
theorem Zb8.nil_iff {xs:List V} {us:List Vb} (r:Zb8 xs us):us=[] ↔ xs=[]:=by
 cases r with
 | nil=>simp
 | cons _ _=>simp
theorem Zr4:OpR X (Vy .Add) (rCatT X.K):=by
 intro pins s σ H x y v u Q I rx ry h
 obtain⟨a,b,xs,ys,rfl,rfl,ha,hb,hx,hz,q1,q2⟩:=h
 cases rx
 cases ry
 obtain⟨its,r1,p1,_⟩:=I.tuple ha
 obtain⟨its2,r2,p2,_⟩:=I.tuple hb
 refine HT.cat_tup p1 p2 (fun z=>hx (r1.nil_iff.mp z)) (fun z=>⟨.ref a,H,I,rfl,q1 (r2.nil_iff.mp z)⟩) (fun z=>?_) (by rw[<- r1.length,<- r2.length]; exact hz)
 refine⟨.ref s.heap.objs.size,_,I.laid (t':=s.toks) (o:=.tup (xs++ys)) (fun b ob q=>Xa _ q) (Xd _) ?_,rfl,q2 (fun w=>z (r2.nil_iff.mpr w)) _ (I.hok.fresh (Xd _))⟩
 exact⟨by rw[Xl]; exact hz,_,r1.append r2,Zk5.new _ _⟩
end
nonrec def ixN (n:Nat) (i:Int):Option Nat:=if 0<=i then (if i<n then some i.toNat else none) else if -(n:Int)<=i then some (i+n).toNat else none
nonrec def atI {α:Type} (xs:List α) (i:Int):Option α:=(ixN xs.length i).bind fun j=>xs[j]?
theorem Zyw {n:Nat} {i:Int} {j:Nat} (h:ixN n i=some j):seqIndex? i n=some j/\j<n /\ -(n:Int)<=i/\i<n:=by
 unfold ixN at h
 by_cases h0:0<=i
 ·rw[if_pos h0] at h
  by_cases h1:i<n
  ·rw[if_pos h1] at h
   have e:i.toNat=j:=Xy.inj h
   exact⟨by rw[seqIndex_of h0 h1,e],by omega,by omega,h1⟩
  ·rw[if_neg h1] at h; cases h
 ·rw[if_neg h0] at h
  by_cases h1 : -(n:Int)<=i
  ·rw[if_pos h1] at h
   have e:(i+n).toNat=j:=Xy.inj h
   exact⟨by rw[seqIndex_neg (by omega) h1,e],by omega,h1,by omega⟩
  ·rw[if_neg h1] at h; cases h
theorem Zr7 {α:Type} {xs:List α} {i:Int} {v:α} (h:atI xs i=some v):∃ j,seqIndex? i xs.length=some j/\xs[j]? = some v/\j<xs.length /\ -(xs.length:Int)<=i/\i<xs.length:=by
 unfold atI at h
 cases e:ixN xs.length i with
 | none=>rw[e] at h; cases h
 | some j =>
  rw[e] at h
  obtain⟨h1,h2,h3,h4⟩:=Zyw e
  exact⟨j,h1,h,h2,h3,h4⟩
theorem Zbx {α:Type} {xs:List α} {j:Nat} {v:α} (h:xs[j]? = some v):atI xs (j:Int)=some v:=by
 have hj:j<xs.length:=(Xc.mp h).1
 have e:ixN xs.length (j:Int)=some j:=by
  unfold ixN
  rw[if_pos (by omega),if_pos (by omega)]; simp
 unfold atI; rw[e]; exact h
theorem Zli {α:Type} (xs:List α) (v:α):atI (xs++[v]) (-1)=some v:=by
 have hl:(xs++[v]).length=xs.length+1:=by simp
 have e:ixN (xs++[v]).length (-1)=some xs.length:=by
  unfold ixN
  rw[hl,if_neg (by decide),if_pos (by omega)]
  congr 1
  omega
 unfold atI
 rw[e]
 show (xs++[v])[xs.length]? = some v
 simp
def Zr3 (b:Vv):Prop:=∀ o i,subscripted b false o i=operate [o,i] (Udk o i)
def IxR (X:Cx) (r:R2):Prop :=
 ∀ (value slice:Vv) (pins:List (Ve×Obj)) (s:Vd) (σ:St) (H:Hp) (x y:V) (v u:Vb) (Q:VK),Inv X pins σ H s->Zcg x v->Zcg y u->r x y H Q ->
  subscripted slice false v u=operate [v,u] (Udk v u)->Vf (Vm X.prog X.w) X.A (subscriptTail value slice v u) (EP X pins σ Q) X.xe s
def MtR (X:Cx) (id:String) (r:V->List V->Hp->VK->Prop):Prop :=
 ∀ (pins:List (Ve×Obj)) (s:Vd) (σ:St) (H:Hp) (x:V) (xs:List V) (v:Vb) (us:List Vb) (Q:VK),Inv X pins σ H s->Zcg x v->Zb8 xs us->r x xs H Q ->
  Vf (Vm X.prog X.w) X.A (call (.builtin id) (v::us)) (EP X pins σ Q) X.xe s
section
variable {X:Cx} {a b:Vv} {ta tb:TE} {pos:Pos}
theorem pe_ix {r:R2} (hr:IxR X r) (ha:PE X a ta) (hb:PE X b tb) (hs:Zr3 b):PE X (.Subscript a b pos) (tOp r ta tb):=by
 intro pins s σ H Q I h
 exact Subscript_ (binT ha hb I h fun v u s2 x y H2 I2 rx ry q=>hr a b pins s2 σ H2 x y v u Q I2 rx ry q (hs _ _))
nonrec def rIxL (K:Xb):R2:=fun x y H Q=>∃ p xs i v,x=.ref p/\y=.int i/\SqL K H p xs/\atI xs i=some v/\Q v H
nonrec def rIxT (K:Xb):R2:=fun x y H Q=>∃ p xs i v,x=.ref p/\y=.int i/\SqT K H p xs/\atI xs i=some v/\Q v H
theorem Zze:IxR X (rIxL X.K):=by
 intro value slice pins s σ H x y v u Q I rx ry h hs
 obtain⟨p,xs,i,z,rfl,rfl,hq,he,q⟩:=h
 cases rx
 obtain⟨t,rfl⟩:=ry
 obtain⟨its,r,pl,hz⟩:=I.list hq
 obtain⟨j,h1,h2,h3,h4,h5⟩:=Zr7 he
 obtain⟨w,ew,rw'⟩:=r.get h2
 have hl:=r.length
 have hn:=Zmp
 have fin:EP X pins σ Q w s:=⟨z,H,I,rw',q⟩
 by_cases h0:0<=i
 ·have hj:i.toNat=j:=by
   rw[seqIndex_of h0 h5] at h1
   exact Xy.inj h1
  exact item_listR pl.isList h0 (by omega) (by rw[hj]; simpa using ew) fin hs
 ·have hj:(i+(its.toArray.size:Int)).toNat=j:=by
   rw[seqIndex_neg (by omega) h4] at h1
   rw[Xm,<- hl]
   exact Xy.inj h1
  exact Ucf (x:=w) pl.isList.typeIs slot_list_getitem.lookup
   (wpAny_getItem_list_neg (Q:=fun r s'=>r=w/\EP X pins σ Q r s') pl.isList (by omega) (by rw[Xm]<;>omega) (by omega) (by rw[hj]; simpa using ew) ⟨rfl,fin⟩) hs
theorem Ycq:IxR X (rIxT X.K):=by
 intro value slice pins s σ H x y v u Q I rx ry h hs
 obtain⟨p,xs,i,z,rfl,rfl,hq,he,q⟩:=h
 cases rx
 obtain⟨t,rfl⟩:=ry
 obtain⟨its,r,pl,hz⟩:=I.tuple hq
 obtain⟨j,h1,h2,h3,h4,h5⟩:=Zr7 he
 obtain⟨w,ew,rw'⟩:=r.get h2
 have hl:=r.length
 have hn:=Zmp
 have fin:EP X pins σ Q w s:=⟨z,H,I,rw',q⟩
 exact Ucf (x:=w) pl.typeIs slot_tuple_getitem.lookup
  (getItem_tuple (j:=j) (Q:=fun r s'=>r=w/\EP X pins σ Q r s') pl (by omega) (by omega) (by rw[Xm,<- hl]; exact h1) (by simpa using ew) ⟨rfl,fin⟩) hs
theorem Zly (lo hi:Option Int) (n:Nat):(Ubg lo hi none n).1=((HT.sIx n 0 lo:Nat):Int)/\(Ubg lo hi none n).2.1=((HT.sIx n n hi:Nat):Int)/\(Ubg lo hi none n).2.2=1:=by
 refine⟨?_,?_,rfl⟩
 ·cases lo with
  | none=>simp[Ubg,HT.sIx]
  | some i =>
   simp only[Ubg,HT.sIx,Wfr,show (1:Int) > 0 by decide,if_true]
   by_cases h:i<0
   ·simp only[h,if_true]<;>omega
   ·simp only[h,if_false]<;>omega
 ·cases hi with
  | none=>simp[Ubg,HT.sIx]
  | some i =>
   simp only[Ubg,HT.sIx,Wfr,show (1:Int) > 0 by decide,if_true]
   by_cases h:i<0
   ·simp only[h,if_true]<;>omega
   ·simp only[h,if_false]<;>omega
theorem Zk9 (its:List Vb) (lo hi:Option Int):slicePick its.toArray lo hi none=((its.drop (HT.sIx its.length 0 lo)).take (HT.sIx its.length its.length hi - HT.sIx its.length 0 lo)).toArray:=by
 obtain⟨h1,h2,h3⟩:=Zly lo hi its.toArray.size
 unfold slicePick
 rw[h1,h2,h3]
 simp only[sliceRange_one,pick_run,Xm]<;>rfl
nonrec def rSlL (K:Xb):V->Option Int->Option Int->Hp->VK->Prop:=fun x lo hi H Q=>∃ a xs,x=.ref a/\SqL K H a xs/\∀ p,H p=none->Q (.ref p) (upd H p (.lst (Zya xs lo hi)))
theorem Zy4:SlR X (rSlL X.K):=by
 intro pins s σ H x v vl vu lo hi sl Q I rx hs pl pu h
 obtain⟨a,xs,rfl,hx,q⟩:=h
 cases rx
 obtain⟨its,r,ht,hz⟩:=I.list hx
 have hlen:=r.length
 refine⟨"list",_,slot_list_getitem.lookup,ht.isList.typeIs,?_⟩
 refine wpAny_getItem_list_slice ht.isList hs pl pu .none (by simp) ?_ (by rw[Xm]<;>omega)
 rw[Zk9,<- hlen]
 refine⟨.ref s.heap.objs.size,_,I.laid (t':=s.toks) (o:=.lst (Zya xs lo hi)) (fun b ob q=>Xa _ q) (Xd _) ?_,rfl,q _ (I.hok.fresh (Xd _))⟩
 exact⟨Waf (Zet xs lo hi) hz,_,0,(r.drop (HT.sIx xs.length 0 lo)).take (HT.sIx xs.length xs.length hi - HT.sIx xs.length 0 lo),Xe _ rfl⟩
theorem Zl9:Zjs X (.builtin "len") (fun xs H Q=>∃ p ys,xs=[.ref p]/\(SqL X.K H p ys\/SqT X.K H p ys)/\Q (.int ys.length) H):=by
 intro pins s σ H xs us Q I r h
 obtain⟨p,ys,rfl,hq,q⟩:=h
 obtain⟨u,rfl,rx⟩:=Zhp r
 cases rx
 have hn:=Zmp
 rcases hq with hq | hq
 ·obtain⟨its,r',pl,hz⟩:=I.list hq
  have hlen:=r'.length
  exact Calls.call_len_list pl.isList (by simp only[Xm]<;>omega) ⟨.int ys.length,H,I.tok _,⟨s.toks+1,by rw[Xm,hlen]⟩,q⟩
 ·obtain⟨its,r',pl,hz⟩:=I.tuple hq
  have hlen:=r'.length
  exact len_tuple pl (by simp only[Xm]<;>omega) ⟨.int ys.length,H,I.tok _,⟨s.toks+1,by rw[Xm,hlen]⟩,q⟩
theorem Zl1:Zjs X (.builtin "len") (fun xs H Q=>∃ z,xs=[.str z]/\z.length<=sizeLine/\Q (.int z.length) H):=by
 intro pins s σ H xs us Q I r h
 obtain⟨z,rfl,hz,q⟩:=h
 obtain⟨u,rfl,t,rfl⟩:=Zhp r
 have hn:=Zmp
 exact len_str (by omega) ⟨.int z.length,H,I.tok _,⟨_,rfl⟩,q⟩
theorem Znh:Zjs X (.type "list") (fun xs H Q=>∃ p ys,xs=[.ref p]/\(SqL X.K H p ys\/SqT X.K H p ys)/\∀ l,H l=none->Q (.ref l) (upd H l (.lst ys))):=by
 intro pins s σ H xs us Q I r h
 obtain⟨p,ys,rfl,hq,q⟩:=h
 obtain⟨u,rfl,rx⟩:=Zhp r
 cases rx
 have fin:∀ (its:List Vb),Zb8 ys its->ys.length<=sizeLine->∀ (h':Vz) (c':Nat),(∀ b o',s.heap.get? b=some o'->h'.get? b=some o') ->
   h'.get? s.heap.objs.size=some { cls:=.type "list",dict:=none,data:=.seq its.toArray c',slots := #[] }->EP X pins σ Q (.ref s.heap.objs.size) { s with heap:=h' }:=fun its r' hz h' c' kp e =>
  ⟨.ref s.heap.objs.size,_,I.laid (t':=s.toks) kp (Xd _) (show Zc9 X.prog X.w _ h' _ (.lst ys) from⟨hz,its,c',r',e⟩),rfl,q _ (I.hok.fresh (Xd _))⟩
 rcases hq with hq | hq
 ·obtain⟨its,r',pl,hz⟩:=I.list hq
  have hlen:=r'.length
  obtain⟨o,ho,hc,n,hd⟩:=pl.isList
  exact call_list_seq p (.inl rfl) ho hc hd (fun h' c' kp e=>fin its r' hz h' c' kp e) (by simp only[Xm]<;>omega)
 ·obtain⟨its,r',pl,hz⟩:=I.tuple hq
  have hlen:=r'.length
  obtain⟨o,ho,hc,n,hd⟩:=pl
  exact call_list_seq p (.inr rfl) ho hc hd (fun h' c' kp e=>fin its r' hz h' c' kp e) (by simp only[Xm]<;>omega)
theorem Zkp:Zjs X (.type "tuple") (fun xs H Q=>∃ p ys,xs=[.ref p]/\((SqL X.K H p ys/\∀ l,H l=none->Q (.ref l) (upd H l (.tup ys)))\/(SqT X.K H p ys/\Q (.ref p) H))):=by
 intro pins s σ H xs us Q I r h
 obtain⟨p,ys,rfl,h⟩:=h
 obtain⟨u,rfl,rx⟩:=Zhp r
 cases rx
 rcases h with ⟨hq,q⟩ | ⟨hq,q⟩
 ·obtain⟨its,r',pl,hz⟩:=I.list hq
  have hlen:=r'.length
  refine call_tuple_list pl.isList (fun h' kp=>?_) (by simp only[Xm]<;>omega)
  have I1:Inv X pins σ H { s with heap:=h' }:=I.kept (t':=s.toks) kp
  have I2:Inv X pins σ (upd H h'.objs.size (.tup ys)) { s with heap:=h'.push { cls:=.type "tuple",data:=.seq its.toArray } } :=
   I1.laid (t':=s.toks) (fun b o e=>Xa _ e) (Xd _) (show Zc9 X.prog X.w _ _ _ (.tup ys) from⟨hz,its,r',Zk5.new _ _⟩)
  exact⟨.ref h'.objs.size,_,I2,rfl,q _ (I1.hok.fresh (Xd _))⟩
 ·obtain⟨its,r',pl,hz⟩:=I.tuple hq
  exact call_tuple_same pl ⟨.ref p,H,I,rfl,q⟩
def tyV (K:Xb) (T:String) (x:V) (H:Hp):Prop:=match x with
 | .str _=>T = "str"
 | .int _=>T = "int"
 | .ref p=>(T = "list" /\ ∃ xs,SqL K H p xs)\/(T = "tuple" /\ ∃ o,K.lookup p=some o/\o.cls=.type "tuple" /\ o.dict=none) \/
   (T = "dict" /\ ((∃ kvs,H p=some (.dK kvs))\/∃ kvs,H p=some (.dT kvs)))\/(T = "set" /\ ∃ S n,H p=some (.set S n))
 | _=>False
theorem Ydt {pins:List (Ve×Obj)} {σ:St} {H:Hp} {s:Vd} {T:String} {x:V} {v:Vb} (I:Inv X pins σ H s) (r:Zcg x v) (ty:tyV X.K T x H) :
  s.TypeIs v T/\∀ a,v=.ref a->∃ ob,s.heap.get? a=some ob/\ob.dict=none:=by
 cases x with
 | str z =>
  obtain⟨t,rfl⟩:=r
  cases (show T = "str" from ty)
  exact⟨typeIs_str s z t,fun _ e=>nomatch e⟩
 | int i =>
  obtain⟨t,rfl⟩:=r
  cases (show T = "int" from ty)
  exact⟨Ucv s i t,fun _ e=>nomatch e⟩
 | ref p =>
  cases r
  rcases ty with ⟨rfl,xs,hq⟩ | ⟨rfl,o,hk,hc,hd⟩ | ⟨rfl,hk⟩ | ⟨rfl,S,n,hk⟩
  ·obtain⟨its,_,pl,_⟩:=I.list hq
   refine⟨pl.isList.typeIs,fun a e=>?_⟩
   cases e
   obtain⟨o,n,e,c,hd,_⟩:=pl
   exact⟨o,e,hd⟩
  ·refine⟨⟨o,I.kIn p o hk,hc⟩,fun a e=>?_⟩
   cases e
   exact⟨o,I.kIn _ o hk,hd⟩
  ·have z:∃ o,s.heap.get? p=some o/\o.ExactDict:=by
    rcases hk with ⟨kvs,hk⟩ | ⟨kvs,hk⟩
    ·obtain⟨_,_,_,_,o,_,_,e,ex,_⟩:=I.hok p _ hk
     exact⟨o,e,ex⟩
    ·obtain⟨_,_,_,_,o,_,_,e,ex,_⟩:=I.hok p _ hk
     exact⟨o,e,ex⟩
   obtain⟨o,e,ex⟩:=z
   refine⟨⟨o,e,ex.1⟩,fun a e2=>?_⟩
   cases e2
   exact⟨o,e,ex.2.1⟩
  ·obtain⟨o,_,_,_,e,ex,_⟩:=I.hok p _ hk
   refine⟨⟨o,e,ex.1⟩,fun a e2=>?_⟩
   cases e2
   exact⟨o,e,ex.2.1⟩
 | _=>exact Ul ty
nonrec def tBM (K:Xb) (T:String) (r:V->List V->Hp->VK->Prop) (to:TE) (t:TA):TE:=fun σ H Q=>to σ H fun x H1=>tyV K T x H1/\t σ H1 fun xs H2=>r x xs H2 Q
variable {o e:Vv} {es:List Vv} {to:TE} {t:TA} {name:Str} {apos cpos:Pos} {T id:String} {r:V->List V->Hp->VK->Prop}
theorem pe_bm (pa:PlainAttrs T) (slot:Slot T name id) (hty:typeOf (.builtin id)=pure (.type "method_descriptor")) (hm:MtR X id r) (ho:PE X o to) (ha:PA X (e::es) t)
  (hbase:Udq o name X.env (eval o X.env)=eval o X.env:=by rfl)
  (hfew:((Ual cpos (Vg (e::es) X.env)).all (fun x => !x.1)&&(Ucw cpos (Ubh [] X.env)).all (fun x=>x.1.isSome)
   && decide ((e::es).length+([]:List Ubz).length+(if ([]:List Ubz).isEmpty then 0 else 1)<30))=true:=by rfl)
  (hline:(apos.endLine==cpos.line)=true:=by rfl) (hs:Vg (e::es) X.env=(false,eval e X.env)::Vg es X.env:=by rfl) (hplain:(Ual cpos (Vg es X.env)).any (·.1)=false:=by rfl) :
  PE X (.Call (.Attribute o name apos) (e::es) [] cpos) (tBM X.K T r to t):=by
 intro pins s σ H Q I h
 refine Ucg hbase hfew hline rfl (thn (ho pins s σ H _ I h) fun v s1 zz=>?_)
 obtain⟨x,H1,I1,r1,ty,q1⟩:=zz
 obtain⟨h1,h2⟩:=Ydt I1 r1 ty
 refine⟨T,id,pa,slot,hty,h1,h2,?_⟩
 have hA:=ha cpos pins s1 σ H1 _ I1 q1
 rw[hs] at hA ⊢
 refine Tbt (by show (false||(Ual cpos (Vg es X.env)).any (·.1))=false; rw[hplain]<;>rfl) (Tcc ?_)
 exact thn hA fun us s2 ⟨vs,H2,I2,r2,q2⟩=>hm pins s2 σ H2 x vs v us Q I2 r1 r2 q2
end
def MtM (X:Cx) (id:String) (r:V->List V->Hp->VK->Prop):Prop :=
 ∀ (pins:List (Ve×Obj)) (s:Vd) (σ:St) (H:Hp) (x:V) (xs:List V) (v:Vb) (us:List Vb) (Q:VK),Inv X pins σ H s->Zcg x v->Zb8 xs us->r x xs H Q ->
  Vf (Vm X.prog X.w) X.A (call (.builtin id) (v::us)) (EP X pins σ Q) X.xe s
theorem Zb8.one:∀ {x:V} {us:List Vb},Zb8 [x] us->∃ u,us=[u]/\Zcg x u:=by
 intro x us h
 cases h with
 | cons r t=>cases t; exact⟨_,rfl,r⟩
theorem Zb8.rep {xs:List V} {us:List Vb} (h:Zb8 xs us):∀ k:Nat,Zb8 (Xs k xs).flatten (Xs k us).flatten
 | 0=>.nil
 | k+1=>by
  rw[Wbl,Wbl,Wbw,Wbw]
  exact Zb8.append h (Zb8.rep h k)
theorem Zif (its:List Vb):∀ (k:Nat) (acc:List Vb),
  Wec (fun x1 x2=>x1++x2) acc.toArray (Xs k its.toArray)=(acc++(Xs k its).flatten).toArray
 | 0,acc=>by simp
 | k+1,acc=>by
  have e:acc.toArray++its.toArray=(acc++its).toArray:=by simp
  have e2:(acc++its)++(Xs k its).flatten=acc++(Xs (k+1) its).flatten:=by
   rw[Wbl,Wbw,Xw]
  rw[<- e2,<- Zif its k (acc++its),<- e,Wbl,List.foldl_cons]
section
variable {X:Cx} {pins:List (Ve×Obj)} {σ:St} {H:Hp} {s:Vd} {l b:Ve} {xs ys zs:List V}
theorem Inv.lset {its its':List Vb} {n:Nat} {f:Array Vb->Array Vb} {t':Nat} (I:Inv X pins σ H s) (hH:H l=some (.lst xs))
  (e:s.heap.get? l=some { cls:=.type "list",data:=.seq its.toArray n }) (hf:f its.toArray=its'.toArray) (hv:Zb8 ys its') (hz:ys.length<=sizeLine) :
  Inv X pins σ (upd H l (.lst ys)) { s with heap:=s.heap.update l (Tax f),toks:=t' }:=by
 have q:=PySem.IsL.update e f
 rw[hf] at q
 refine I.write (x:=l) (e:=l) (by rw[hH]; exact trivial) (.inl rfl) (fun b' u hb hu=>(Heap.get?_update_other s.heap (Tax f) (Uo hb)).trans hu) ⟨_,q⟩ ?_
 exact⟨hz,its',_,hv,q⟩
theorem Inv.lnew {its:List Vb} {t':Nat} (I:Inv X pins σ H s) (hv:Zb8 ys its) (hz:ys.length<=sizeLine) :
  Inv X pins σ (upd H s.heap.objs.size (.lst ys)) { s with heap:=s.heap.push { cls:=.type "list",data:=.seq its.toArray },toks:=t' } :=
 I.laid (fun _ _ q=>Xa _ q) (Xd _) ⟨hz,its,0,hv,Xe _ rfl⟩
theorem Inv.fresh (I:Inv X pins σ H s):H s.heap.objs.size=none:=I.hok.fresh (Xd _)
theorem Inv.lstM (I:Inv X pins σ H s) (hH:H l=some (.lst xs)):xs.length<=sizeLine/\∃ (its:List Vb) (n:Nat),Zb8 xs its/\xs.length=its.length/\s.heap.get? l=some { cls:=.type "list",data:=.seq its.toArray n }:=by
 obtain⟨z,its,n,r,e⟩:=I.hok l _ hH
 exact⟨z,its,n,r,r.length,e⟩
theorem Zvz {n:Nat} (h:n<=sizeLine):Tal n=false:=by
 unfold Tal
 exact decide_eq_false (by omega)
end
section
variable {X:Cx}
nonrec def Zzh:V->List V->Hp->VK->Prop:=fun x vs H Q=>∃ l xs y,x=.ref l/\vs=[y]/\H l=some (.lst xs)/\xs.length<sizeLine/\Q .non (upd H l (.lst (xs++[y])))
theorem Zi1:MtM X "list.append" Zzh:=by
 intro pins s σ H x vs v us Q I rx rv h
 obtain⟨l,xs,y,rfl,rfl,hH,hz,q⟩:=h
 cases rx
 obtain⟨u,rfl,ru⟩:=rv.one
 obtain⟨z,its,n,r,hl,e⟩:=I.lstM hH
 refine Ubo F.slot_list_append ⟨_,e,rfl⟩ F.entry_list_append (F.args_list_append_2 _ _) (PySem.list_append l its.toArray n u (by rw[Xm]; omega)) ⟨e,?_⟩
 refine⟨.non,_,I.lset (its':=its++[u]) hH e (by simp) (r.append (.cons ru .nil)) ?_,rfl,q⟩
 rw[Xl,Wbm]
 omega
nonrec def rCat:R2:=fun x y H Q=>∃ l b xs zs,x=.ref l/\y=.ref b/\H l=some (.lst xs)/\H b=some (.lst zs)/\xs.length+zs.length<=sizeLine/\∀ p,H p=none->Q (.ref p) (upd H p (.lst (xs++zs)))
theorem Ya7:OpR X (Vy .Add) rCat:=by
 intro pins s σ H x y v u Q I rx ry h
 obtain⟨l,b,xs,zs,rfl,rfl,hH,hB,hz,q⟩:=h
 cases rx
 cases ry
 obtain⟨z,its,n,r,hl,e⟩:=I.lstM hH
 obtain⟨z2,its2,n2,r2,hl2,e2⟩:=I.lstM hB
 refine PySem.P.add_list e e2 ?_ (by rw[Xm,Xm]; omega)
 have ea:its.toArray++its2.toArray=(its++its2).toArray:=by simp
 rw[ea]
 exact⟨.ref _,_,I.lnew (t':=s.toks) (r.append r2) (by rw[Xl]; omega),rfl,q _ I.fresh⟩
nonrec def rRep:R2:=fun x y H Q=>∃ l k xs,x=.ref l/\y=.int k/\H l=some (.lst xs) /\ -(2 ^ 63)<=k/\k<2 ^ 63/\xs.length*k.toNat<=sizeLine /\
 ∀ p,H p=none->Q (.ref p) (upd H p (.lst (Xs k.toNat xs).flatten))
theorem Zn6 {α:Type} (xs:List α) (k:Nat):(Xs k xs).flatten.length=k*xs.length:=by
 induction k with
 | zero=>simp
 | succ k ih=>rw[Wbl,Wbw,Xl,ih,Nat.succ_mul,Nat.add_comm]
theorem Yc7:OpR X (Vy .Mult) rRep:=by
 intro pins s σ H x y v u Q I rx ry h
 obtain⟨l,k,xs,rfl,rfl,hH,h1,h2,hz,q⟩:=h
 cases rx
 obtain⟨t,rfl⟩:=ry
 obtain⟨z,its,n,r,hl,e⟩:=I.lstM hH
 have hlen:its.toArray.size*k.toNat<=sizeLine:=by rw[Xm,<- hl]; exact hz
 have hcap:¬ its.toArray.size*k.toNat > (2 ^ 63 - 1) / 8:=by
  have:(sizeLine:Nat)<=(2 ^ 63 - 1) / 8:=by decide
  omega
 have hfit:¬ (!Builtin.List.listFitsIndex k)=true:=by
  rw[fitsIndex_both h1 h2]
  exact Wbj
 have hlong:¬ Tal (its.toArray.size*k.toNat)=true:=by
  rw[Zvz hlen]
  exact Wbj
 have hnew:Wec (fun x1 x2=>x1++x2) #[] (Xs (if its.toArray.isEmpty=true then 0 else k.toNat) its.toArray)=(Xs k.toNat its).flatten.toArray:=by
  have f0:∀ m:Nat,Wec (fun x1 x2=>x1++x2) #[] (Xs m its.toArray)=(Xs m its).flatten.toArray:=fun m=>by
   have:=Zif its m []
   rw[Wct] at this
   exact this
  rw[f0]
  cases its with
  | nil=>simp
  | cons a r'=>rw[if_neg (by simp)]
 refine Ubu (T := "list") (U := "int") (by decide) ⟨_,e,rfl⟩ (fun s'=>Ucv s' k t) noFill_list_mul F.fills_int_mul Taz repeat_list F.slot_int_index.lookup
  (Ubo Taz (Ucv s k t) F.entry_int_rmul (Tcj _ _) (int___rmul___int_list k t l its.toArray n)
   ⟨e,rfl,⟨_,e,rfl⟩,Ubo F.slot_list_mul ⟨_,e,rfl⟩ F.entry_list_mul (F.args_list_mul_2 _ _) (AutoListH.list___mul___list_int_3 l its.toArray n k t hfit hcap hlong) ⟨e,?_⟩⟩)
 rw[hnew]
 exact⟨.ref _,_,I.lnew (t':=s.toks) (r.rep k.toNat) (by rw[Zn6,Wfn]; exact hz),rfl,q _ I.fresh⟩
end
section
variable {prog:Vh} {w:Vu} {A:Vt} {E:Vb->Vd->Prop} {s:Vd}
set_option maxRecDepth 100000 in
end
end L2
namespace Att
open PySem PySem.W PySem.Calls PyProof.Rows
theorem Zin {P:Params} {h:Vz}:∀ (ns:List Int) (vs:List Vb),WellAll P h vs (ns.map WData.int)->Ubd vs ns:=by
 intro ns
 induction ns with
 | nil =>
  intro vs w
  rw[Wde] at w
  cases w
  exact .nil
 | cons n ns ih =>
  intro vs w
  rw[Xq] at w
  cases w with
  | cons a b =>
   cases a
   exact .cons _ _ (ih _ b)
theorem Zrx {l:OpenLaw} {n:Nat} (hn:l.most=some n) {P:Params} {h:Vz} {args:List WData} {vals:List Vb}
  (hpre:l.row.toRowW.claim.pre args=true) (hwl:WellAll P h vals args) :
  ∃ a vs ns,vals=[Uw a]/\args=[WData.list (ns.map WData.int)]/\h.get? a=some { cls:=.type "list",data:=.seq vs.toArray }/\Ubd vs ns/\ns.length<=n:=by
 have hsh:WShape.hasAll [] args [.list .int]=true:=(pre_splitW hpre).1
 have hc:l.pre.holds [] { args:=args }=true:=(pre_splitW hpre).2
 obtain⟨d,r,rfl,h1,h2⟩:=hasAllW_cons hsh
 obtain rfl:=hasAllW_nil h2
 obtain⟨xs,rfl,h3⟩:=hasW_list h1
 obtain⟨ns,rfl⟩:=items_int h3
 have hlen:ns.length<=n:=by
  unfold OpenLaw.pre at hc
  have h4:(WTm.not (.lt (.lit (.int (n:Int))) (.len (.arg 0)))).holds [] { args:=[.list (ns.map .int)] }=true:=by
   have h4:=(holds_andW hc).1
   rw[hn] at h4
   exact h4
  have h5:=condW_of h4 (w_not (w_lt w_lit (w_len_list (w_arg rfl))))
  rw[Xk] at h5
  refine Nat.le_of_not_lt fun q=>?_
  have q':(n:Int)<((ns.length:Nat):Int):=by omega
  first
   | (rw[decide_eq_true q'] at h5; exact absurd h5 (by decide))
   | (simp at h5; omega)
 cases hwl with
 | cons w1 w2 =>
  cases w2
  cases w1 with
  | list ho hall=>exact⟨_,_,ns,rfl,rfl,ho,Zin ns _ hall,hlen⟩
theorem Zuz (l:OpenLaw) (args:List WData):l.row.toRowW.claim.post args (.bool true) args=true :=
 postW_of (r:=l.row.toRowW) (X:=(true==true))
  (show WShape.has [] (.bool true) .bool=true by first | rfl | decide | simp[WShape.has,WShape.arms,WShape.armsAll])
  (show (WTm.eq .res (.lit (.bool true))).value [] { args:=args,res:=some (.bool true),after:=args }=some (.bool (true==true)) from w_eq_bool (w_res rfl) w_lit) rfl
theorem attach_call {l:OpenLaw} {n:Nat} {q:Vh} {loose:List Str} {XP:(Str->Option Vb)->Vz->Prop} {YP:Vu->Vz->Prop} {d:DefRec}
  (hn:l.most=some n) (hdf:d.params.defaults=[])
  (call:∀ (w:Vu) (s₀ s₁:Vd) (mg mb:Str->Option Vb) (fa:Ve) (o:Obj) (pm cd doc:Vb) (a:Ve) (vs:List Vb) (ns:List Int),
   Ground q loose [] XP w s₀ mg mb s₁.heap->YP w s₁.heap ->
   s₁.heap.get? fa=some o->o.data=.func (docDef d.name d.params d.body d.scope pm cd doc)->s₁.heap.CodeRec cd d.name->mg d.name=some (.ref fa) ->
   s₁.heap.get? a=some { cls:=.type "list",data:=.seq vs.toArray }->Ubd vs ns->ns.length<=n->s₁.gens = #[] ->
   Ucn (Vm l.prog w) Udu (.call (.ref fa) ⟨[.ref a],[]⟩) (fun r s'=>r=.ok (.ret (.bool true))/\OldK s₁.heap s'.heap/\s'.os=s₁.os/\Ucj s'.gens) s₁) :
  WalkO q loose XP YP l.row.toRowW d [] (fun f vs=>Tcs f vs):=by
 intro w s₀ s₁ mg mb G Y fa o pm cd doc dV kV ho hd hcd hD hmg hg args vals as hpre hlay hrd hwl hlo
 obtain rfl:dV=.none:=Dflts.none hD hdf
 obtain rfl:kV=.none:=Dflts.noKw hD
 obtain⟨a,vs,ns,rfl,rfl,hobj,hints,hlen⟩:=Zrx hn hpre hwl
 refine enter_call (Uax (call w s₀ s₁ mg mb fa o pm cd doc a vs ns G Y ho (fd_plain hd) hcd hmg hobj hints hlen hg) fun r s' hq=>?_)
 obtain⟨rfl,h2,h3,h4⟩:=hq
 exact⟨.inl ⟨.bool true,.bool true,[],rfl,fun _=>rfl,.bool true,Zuz l _,fun _=>⟨List.Pairwise.nil,fun _ hm=>(nomatch hm)⟩⟩,h2,h3,h4⟩
end Att
namespace L2
open PySem PySem.Spec PyProof.Rows
theorem vals_ints:∀ {vs:List Vb} {ns:List Int},Ubd vs ns->Zb8 (ns.map V.int) vs
 | _,_,.nil=>.nil
 | _,_,.cons n t h=>.cons ⟨t,rfl⟩ (vals_ints h)
nonrec abbrev KOf {K:Xb} {h:Vz} (_:K.In h):Xb:=K
nonrec def Zck (s:Uae):Uef:=match s with
 | .FunctionDef _ a _ _ _ _ _ _ _ _=>a
 | _=>{ posonlyargs:=[],args:=[],vararg:=none,kwonlyargs:=[],kw_defaults:=[],kwarg:=none,defaults:=[] }
nonrec def Za7 (s:Uae):List Uae:=match s with
 | .FunctionDef _ _ b _ _ _ _ _ _ _=>b
 | _=>[]
nonrec def Zad (s:Uae):Ubm:=match s with
 | .FunctionDef _ _ _ _ _ _ sc _ _ _=>sc
 | _=>{ kind:=.function,names:=[],isGenerator:=false,isCoroutine:=false }
nonrec abbrev CX0:CXT:=fun _ _ _ _ _ _=>False
nonrec abbrev E0:XK:=fun _ _ _=>False
theorem Yb7 {X:Cx}:Zu8 CX0 X E0:=fun _ _ _ _ _ _ _ h=>h.elim
structure Fun (K:Xb) (x qual:Str) (st:Uae) (f:Ve) (fd:Uaq):Prop where
 ex:∃ (oc:Vb) (od:Option Ve) (kV doc pm:Vb) (an:Option Ve) (cdv ct:Vb) (osl:Array (Option Vb)),
  fd=Wbc x qual (Zck st) (Za7 st) (Zad st) .none kV doc pm an cdv ct/\K.lookup f=some ⟨oc,od,.func fd,osl⟩/\Wcn K cdv qual=true
 kp:Wcd K (.ref f)=true
section
variable {P:Vh} {w:Vu} {K:Xb} {mg:Str->Option Vb} {base:Vz}
theorem Fun.ok {x qual:Str} {st:Uae} {f:Ve} {fd:Uaq} {N ps:List Str} {k:Nat} {sp:Sp} (F:Fun K x qual st f fd) (S:FnScope N ps (Zad st)) (len:∀ vs H Q E,sp vs H Q E->vs.length=ps.length)
  (hbody:∀ (cdv:Vb) (A:Vt) (outer:List Env) (s:Vd) (H:Hp) (vs:List V) (Q:VK) (E:XK),Room k (A.deeper (Ubc qual (Zad st) s.heap.objs.size f cdv))->sp vs H Q E ->
   ∃ t,PSs (Zln CX0 P w K mg base N qual (Zad st) f cdv A outer s H E).nox (Za7 st) t/\t { nx:=fun _ H'=>Q .non H',rt:=Q } (start N vs) H):FnOk P w K mg base CX0 (k+1) f fd ps sp:=by
 obtain⟨oc,od,kV,doc,pm,an,cdv,ct,osl,rfl,lk,hcd⟩:=F.ex
 refine fn_of lk hcd S len fun A outer s H vs Q E hr hsp=>?_
 obtain⟨t,h,q⟩:=hbody cdv A outer s H vs Q E hr hsp
 exact⟨t,h.nox,q⟩
theorem Fun.binds {x qual:Str} {st:Uae} {f:Ve} {fd:Uaq} {ps:List Str} (F:Fun K x qual st f fd)
  (h:∀ (kV doc pm:Vb) (an:Option Ve) (cdv ct:Vb) (us:List Vb),us.length=ps.length->Uby (Wbc x qual (Zck st) (Za7 st) (Zad st) .none kV doc pm an cdv ct) ⟨us,[]⟩=pure (ps.zip us)):Znx K fd ps []:=by
 obtain⟨oc,od,kV,doc,pm,an,cdv,ct,osl,rfl,lk,hcd⟩:=F.ex
 exact .all (h kV doc pm an cdv ct)
theorem Zxi {x qual:Str} {st:Uae} {f:Ve} {oc:Vb} {od an:Option Ve} {osl:Array (Option Vb)} {kV doc pm cdv ct:Vb} (l:K.lookup f=some ⟨oc,od,.func (Wbc x qual (Zck st) (Za7 st) (Zad st) .none kV doc pm an cdv ct),osl⟩)
  (c:Wcn K cdv qual=true) (k:Wcd K (.ref f)=true):Fun K x qual st f (Wbc x qual (Zck st) (Za7 st) (Zad st) .none kV doc pm an cdv ct):=⟨⟨oc,od,kV,doc,pm,an,cdv,ct,osl,rfl,l,c⟩,k⟩
end
section
variable {X:Cx}
theorem pv (i:Nat) {x:Str} {pos:Pos} (hN:X.N[i]? = some x:=by rfl) (hv:Vis X.env.scope x:=by first | exact Tba rfl | exact Tau (Tba rfl) | exact Tau (Tau rfl)) (hd:(x==("__debug__" : Str))=false:=by decide)
  (hcd:(x==("__classdict__" : Str))=false:=by decide):PE X (.Name x pos) (Ya2 i):=Yc1 hN hv hd hcd
end
end L2
set_option maxHeartbeats 4000000
set_option autoImplicit false
namespace DL
open PySem PySem.Spec PyProof.Rows L2
nonrec def Zsa:Vb->Option Int
 | .int i _=>some i
 | .bool b=>some (if b then 1 else 0)
 | _=>none
nonrec def Zmc (k:Int) (v:Vb):Bool:=Zsa v==some k
theorem Zen {k:Int} {v:Vb} (h:Zmc k v=true):(∃ t,v=.int k t)\/∃ b,v=.bool b/\k=(if b then 1 else 0):=by
 have h:Zsa v=some k:=eq_of_beq h
 cases v with
 | int i t=>exact .inl ⟨t,by cases h; rfl⟩
 | bool b=>exact .inr ⟨b,rfl,(Xy.inj h).symm⟩
 | _=>cases h
section
variable {prog:Vh} {w:Vu} {A:Vt} {E:Vb->Vd->Prop} {s:Vd}
theorem Zoq {b:Bool} {Q:Int->Vd->Prop} (h:Q (Ueb (if b then 1 else 0)) { s with toks:=s.toks+1 }):Vf (Vm prog w) A (pyHash (.bool b)) Q E s:=by
 have hr:=rawHash_range (if b then 1 else 0)
 have tb:s.TypeIs (.bool b) "bool" := rfl
 unfold pyHash
 have hv:[Tci b].any Value.onHeap=false:=rfl
 refine Va ?_
 rw[cRoomFor,if_neg (by rw[hv]; exact Wbj)]; refine Vc ?_
 refine Va (wpAny_specialOf tb Tas.lookup ?_)
 show Vf _ _ (if (some (Value.builtin "int.__hash__")==some Uq)=true then _ else _) Q E s
 rw[if_neg (by rw[beq_builtin_none]; exact Wbj)]
 refine Va (wpAny_specialOf tb Tas.lookup ?_)
 show Vf _ _ (callSpecialIfBoundUnlessNone? (.bool b) "__hash__" _ >>= _) Q E s
 refine Va (wpAny_callSpecialIfBoundUnlessNone?_slot tb Tas
  (Vp Tas tb entry_int_hash
   (show Vf _ _ (do ret (<- mkInt (rawHash (if b then 1 else 0)))) _ _ s from wpAny_ret_mkInt ?_) (args_int_hash _)))
 show Vf _ _ (if (decide (-(2:Int) ^ 63<=rawHash (if b then 1 else 0))&&decide (rawHash (if b then 1 else 0)<2 ^ 63))=true then _ else _) Q E _
 rw[if_pos (by rw[decide_eq_true hr.1,decide_eq_true hr.2]; rfl)]
 exact Vc h
end
nonrec def Zcn (prog:Vh) (w:Vu):KeyKind prog w Int where
 is:=Zmc
 hash:=Ueb
 inj:=fun v a b ha hb=>by
  unfold Zmc at ha hb
  have:=(eq_of_beq ha).symm.trans (eq_of_beq hb)
  exact Xy.inj this
 byValue:=fun k v h=>by rcases Zen h with ⟨t,rfl⟩ | ⟨b,rfl,_⟩<;>rfl
 pyHash:=fun hv h=>by
  rcases Zen hv with ⟨t,rfl⟩ | ⟨b,rfl,rfl⟩
  ·exact wpAny_pyHash_int h
  ·exact Zoq h
 eqBool:=fun {A E s a b u v Q} hu hv h=>by
  rcases Zen hu with ⟨t,rfl⟩ | ⟨c,rfl,rfl⟩<;>rcases Zen hv with ⟨t',rfl⟩ | ⟨c',rfl,rfl⟩
  ·exact wpAny_eqBool_int h
  ·exact Tcp _ _ _ prog w E Q h
  ·exact Tcq _ _ _ prog w E Q h
  ·refine Tco _ _ prog w E Q ?_
   have e:(c==c')=decide ((if c then (1:Int) else 0)=(if c' then 1 else 0)):=by cases c<;>cases c'<;>rfl
   rw[e]; exact h
 «strs»:=fun k x t v h=>by simp[Zmc,Zsa] at h
nonrec def iIsz (k:Int) (v:Vb):Bool:=match v with
 | .int i _=>i==k
 | _=>false
theorem Zju {k:Int} {v:Vb} (h:iIsz k v=true):∃ t,v=.int k t:=by
 cases v with
 | int i t=>exact⟨t,by rw[eq_of_beq (show (i==k)=true from h)]⟩
 | _=>cases h
theorem Zji {k:Int} {t:Tok}:iIsz k (.int k t)=true:=beq_self_eq_true k
theorem Zfj {k:Int} {v:Vb} (h:iIsz k v=true):Zmc k v=true:=by
 obtain⟨t,rfl⟩:=Zju h
 exact beq_self_eq_true (some k)
nonrec def Zvh (prog:Vh) (w:Vu):KeyKind prog w Int where
 is:=iIsz
 hash:=Ueb
 inj:=fun v a b ha hb=>(Zcn prog w).inj v a b (Zfj ha) (Zfj hb)
 byValue:=fun k v h=>(Zcn prog w).byValue k v (Zfj h)
 pyHash:=fun hv h=>(Zcn prog w).pyHash (Zfj hv) h
 eqBool:=fun {A E s a b u v Q} hu hv h=>(Zcn prog w).eqBool (a:=a) (b:=b) (Zfj hu) (Zfj hv) h
 «strs»:=fun k x t v h=>by cases h
inductive D where
 | non | bl (b:Bool) | int (i:Int) | str (x:Str) | ty (n:String) | tup (xs:List D) | fl (xs:List D) | ref (n:Nat)
inductive DO where
 | lst (xs:List D) | dic (kvs:List (D×D)) (fz:Bool) | dci (kvs:List (Int×D)) | dcn (kvs:List (D×D)) | obj (cn:Str) (fs:List (Str×D)) | exc (cn:Str) | clo (n:String) (x:Str) (d:D) | tab (n:String) (b:Bool)
nonrec abbrev HD:=List DO
nonrec abbrev SD:=List (Option D)
def FzL (K:Xb) (H:Hp) (a:Ve) (xs:List V):Prop :=
 (∃ o,H a=some (.frz o (.lst xs))) \/
  ∃ (o:Obj) (its:Array Vb) (n:Nat),K.lookup a=some o/\o.cls=.type "list" /\ o.dict=none/\o.data=.seq its n/\its.size<=sizeLine/\Zb8 xs its.toList
theorem FzL.sq {K:Xb} {H:Hp} {a:Ve} {xs:List V} (h:FzL K H a xs):SqL K H a xs:=by
 rcases h with h | h
 ·exact .inl (.inr h)
 ·exact .inr h
nonrec def Zxz (n:String):Bool:=n == "bool" || n == "int" || n == "str" || n == "tuple" || n == "list"
mutual
noncomputable def Rep (K:Xb) (H:Hp) (ι:List Ve):D->V->Prop
 | .non,v=>v=.non
 | .bl b,v=>v=.bl b
 | .int i,v=>v=.int i
 | .str x,v=>v=.str x
 | .ty n,v=>(Zxz n=true/\v=.ty n)\/(Zxz n=false/\∃ a,v=.ref a/\Wcq K Vl (Ua n)=some (some (.ref a)))
 | .tup ds,v=>∃ a vs,v=.ref a/\SqT K H a vs/\Zl4 K H ι ds vs
 | .fl ds,v=>∃ a vs,v=.ref a/\FzL K H a vs/\Zl4 K H ι ds vs
 | .ref n,v=>∃ a,v=.ref a/\ι[n]? = some a
noncomputable def Zl4 (K:Xb) (H:Hp) (ι:List Ve):List D->List V->Prop
 | [],vs=>vs=[]
 | d::ds,vs=>∃ v r,vs=v::r/\Rep K H ι d v/\Zl4 K H ι ds r
end
section
variable {α β:Type} {F G:α->β->Prop}
theorem Prd.len:∀ {xs:List α} {us:List β},Vj F xs us->xs.length=us.length
 | _,_,.nil=>rfl
 | _,_,.cons _ t=>by simp[Prd.len t]
theorem Prd.get:∀ {xs:List α} {us:List β} {i:Nat} {x:α},Vj F xs us->xs[i]? = some x->∃ u,us[i]? = some u/\F x u
 | _,_,_,_,.nil,e=>by simp at e
 | _,_,0,_,.cons r _,e=>by simp at e; subst e; exact⟨_,rfl,r⟩
 | _,_,i+1,x,.cons _ t,e=>by
  obtain⟨u,h1,h2⟩:=Prd.get (i:=i) (x:=x) t (by simpa using e)
  exact⟨u,by simpa using h1,h2⟩
theorem Prd.append:∀ {xs ys:List α} {us ws:List β},Vj F xs us->Vj F ys ws->Vj F (xs++ys) (us++ws)
 | _,_,_,_,.nil,s=>s
 | _,_,_,_,.cons r t,s=>.cons r (Prd.append t s)
theorem Prd.take:∀ {xs:List α} {us:List β} (n:Nat),Vj F xs us->Vj F (xs.take n) (us.take n)
 | _,_,0,_=>.nil
 | _,_,_+1,.nil=>.nil
 | _,_,n+1,.cons r t=>.cons r (Prd.take n t)
theorem Prd.drop:∀ {xs:List α} {us:List β} (n:Nat),Vj F xs us->Vj F (xs.drop n) (us.drop n)
 | _,_,0,r=>r
 | _,_,_+1,.nil=>.nil
 | _,_,n+1,.cons _ t=>Prd.drop n t
theorem Prd.rep {xs:List α} {us:List β} (h:Vj F xs us):∀ k:Nat,Vj F (Xs k xs).flatten (Xs k us).flatten
 | 0=>.nil
 | k+1=>by
  rw[Wbl,Wbw,Wbl,Wbw]
  exact Prd.append h (Prd.rep h k)
theorem Prd.imp:∀ {xs:List α} {us:List β},Vj F xs us->(∀ a b,a∈xs->F a b->G a b)->Vj G xs us
 | _,_,.nil,_=>.nil
 | _,_,.cons r t,f=>.cons (f _ _ (by simp) r) (Prd.imp t fun a b h=>f a b (by simp[h]))
end
section
variable {K:Xb} {H H':Hp} {ι ι':List Ve}
theorem Zdx:∀ {ds:List D} {vs:List V},Zl4 K H ι ds vs ↔ Vj (Rep K H ι) ds vs
 | [],vs=>by
  constructor
  ·intro h; rw[Zl4] at h; subst h; exact .nil
  ·intro h; cases h; rw[Zl4]
 | d::ds,vs=>by
  constructor
  ·intro h; rw[Zl4] at h
   obtain⟨v,r,rfl,h1,h2⟩:=h
   exact .cons h1 (Zdx.mp h2)
  ·intro h
   cases h with
   | cons h1 h2=>rw[Zl4]; exact⟨_,_,rfl,h1,Zdx.mpr h2⟩
@[simp] theorem rep_non {v:V}:Rep K H ι .non v ↔ v=.non:=by rw[Rep]
@[simp] theorem rep_bl {b:Bool} {v:V}:Rep K H ι (.bl b) v ↔ v=.bl b:=by rw[Rep]
@[simp] theorem rep_int {i:Int} {v:V}:Rep K H ι (.int i) v ↔ v=.int i:=by rw[Rep]
@[simp] theorem rep_str {x:Str} {v:V}:Rep K H ι (.str x) v ↔ v=.str x:=by rw[Rep]
theorem Zyf {n:String} {v:V} (h:Zxz n=true):Rep K H ι (.ty n) v ↔ v=.ty n:=by rw[Rep]; simp[h]
theorem Zx8 {n:String} {v:V} (h:Zxz n=false):Rep K H ι (.ty n) v ↔ ∃ a,v=.ref a/\Wcq K Vl (Ua n)=some (some (.ref a)):=by rw[Rep]; simp[h]
theorem Zbc {ds:List D} {v:V}:Rep K H ι (.tup ds) v ↔ ∃ a vs,v=.ref a/\SqT K H a vs/\Vj (Rep K H ι) ds vs:=by
 rw[Rep]
 constructor
 ·rintro⟨a,vs,h1,h2,h3⟩; exact⟨a,vs,h1,h2,Zdx.mp h3⟩
 ·rintro⟨a,vs,h1,h2,h3⟩; exact⟨a,vs,h1,h2,Zdx.mpr h3⟩
theorem Zgq {ds:List D} {v:V}:Rep K H ι (.fl ds) v ↔ ∃ a vs,v=.ref a/\FzL K H a vs/\Vj (Rep K H ι) ds vs:=by
 rw[Rep]
 constructor
 ·rintro⟨a,vs,h1,h2,h3⟩; exact⟨a,vs,h1,h2,Zdx.mp h3⟩
 ·rintro⟨a,vs,h1,h2,h3⟩; exact⟨a,vs,h1,h2,Zdx.mpr h3⟩
theorem Za0 {n:Nat} {v:V}:Rep K H ι (.ref n) v ↔ ∃ a,v=.ref a/\ι[n]? = some a:=by rw[Rep]
structure Lw (K:Xb) (H:Hp) (ι:List Ve) (H':Hp) (ι':List Ve):Prop where
 tup:∀ a xs,SqT K H a xs->SqT K H' a xs
 fz:∀ a xs,FzL K H a xs->FzL K H' a xs
 pre:∃ t,ι'=ι++t
 fr:∀ a o u,H a=some (.frz o u)->H' a=some (.frz o u)
structure Le (K:Xb) (H:Hp) (ι:List Ve) (H':Hp) (ι':List Ve):Prop extends Lw K H ι H' ι' where
 frame:∀ a o,H a=some o->a∉ι->H' a=some o/\a∉ι'
theorem Le.refl:Le K H ι H ι:=⟨⟨fun _ _ h=>h,fun _ _ h=>h,⟨[],by simp⟩,fun _ _ _ h=>h⟩,fun _ _ h n=>⟨h,n⟩⟩
theorem Le.trans {H1 H2:Hp} {ι1 ι2:List Ve} (a:Le K H ι H1 ι1) (b:Le K H1 ι1 H2 ι2):Le K H ι H2 ι2:=by
 refine⟨⟨fun x xs h=>b.tup x xs (a.tup x xs h),fun x xs h=>b.fz x xs (a.fz x xs h),?_,fun x o u h=>b.fr x o u (a.fr x o u h)⟩,fun x o h n=>?_⟩
 ·obtain⟨t,e⟩:=a.pre
  obtain⟨u,e'⟩:=b.pre
  exact⟨t++u,by rw[e',e,Xw]⟩
 ·obtain⟨h1,n1⟩:=a.frame x o h n
  exact b.frame x o h1 n1
theorem Lw.get (l:Lw K H ι H' ι') {n:Nat} {a:Ve} (h:ι[n]? = some a):ι'[n]? = some a:=by
 obtain⟨t,e⟩:=l.pre
 rw[e,Xg (by exact(Xc.mp h).1),h]
mutual
theorem Rep.monoW (l:Lw K H ι H' ι'):∀ {d:D} {v:V},Rep K H ι d v->Rep K H' ι' d v
 | .non,v,h=>by rw[Rep] at h ⊢; exact h
 | .bl _,v,h=>by rw[Rep] at h ⊢; exact h
 | .int _,v,h=>by rw[Rep] at h ⊢; exact h
 | .str _,v,h=>by rw[Rep] at h ⊢; exact h
 | .ty _,v,h=>by rw[Rep] at h ⊢; exact h
 | .tup ds,v,h=>by
  rw[Rep] at h ⊢
  obtain⟨a,vs,h1,h2,h3⟩:=h
  exact⟨a,vs,h1,l.tup a vs h2,Zl4.monoW l h3⟩
 | .fl ds,v,h=>by
  rw[Rep] at h ⊢
  obtain⟨a,vs,h1,h2,h3⟩:=h
  exact⟨a,vs,h1,l.fz a vs h2,Zl4.monoW l h3⟩
 | .ref n,v,h=>by
  rw[Rep] at h ⊢
  obtain⟨a,h1,h2⟩:=h
  exact⟨a,h1,l.get h2⟩
theorem Zl4.monoW (l:Lw K H ι H' ι'):∀ {ds:List D} {vs:List V},Zl4 K H ι ds vs->Zl4 K H' ι' ds vs
 | [],vs,h=>by rw[Zl4] at h ⊢; exact h
 | d::ds,vs,h=>by
  rw[Zl4] at h ⊢
  obtain⟨v,r,h1,h2,h3⟩:=h
  exact⟨v,r,h1,Rep.monoW l h2,Zl4.monoW l h3⟩
end
theorem Rep.mono (l:Le K H ι H' ι') {d:D} {v:V} (h:Rep K H ι d v):Rep K H' ι' d v:=Rep.monoW l.toLw h
theorem Prd.monoW (l:Lw K H ι H' ι') {ds:List D} {vs:List V} (h:Vj (Rep K H ι) ds vs):Vj (Rep K H' ι') ds vs:=Zdx.mp (Zl4.monoW l (Zdx.mpr h))
theorem Prd.mono (l:Le K H ι H' ι') {ds:List D} {vs:List V} (h:Vj (Rep K H ι) ds vs):Vj (Rep K H' ι') ds vs:=Prd.monoW l.toLw h
nonrec def nkOf:D->Option Int
 | .int i=>some i
 | .bl b=>some (if b then 1 else 0)
 | _=>none
nonrec def Zkh:List D->Option (List Int)
 | []=>some []
 | d::r=>(nkOf d).bind fun k=>(Zkh r).map fun ks=>k::ks
nonrec def nk:D->Option (List Int)
 | .tup ds=>Zkh ds
 | _=>none
nonrec def Yb6 (ks:List Int):Int:=reduceHash (Tbl (ks.map Ueb))
def Zda (a:Ve) (xs:List (List Int×Ve×Vb)) (h:Vz):Prop :=
 ∃ o es ep,h.get? a=some o/\o.ExactDict/\o.data=.dict es ep/\es.toList=xs.map (fun x=>(⟨Yb6 x.1,.ref x.2.1,x.2.2⟩:Uak))/\(xs.map (·.1)).Nodup
theorem Zda.keep {a:Ve} {xs:List (List Int×Ve×Vb)} {h1 h2:Vz} (d:Zda a xs h1) (k:∀ o,h1.get? a=some o->h2.get? a=some o):Zda a xs h2:=by
 obtain⟨o,es,ep,e,r⟩:=d
 exact⟨o,es,ep,k o e,r⟩
def Zrk (K:Xb) (H:Hp) (ι:List Ve) (p:D×D) (x:List Int×Ve×Vb):Prop:=nk p.1=some x.1/\Rep K H ι p.1 (.ref x.2.1)/\∃ v,Zcg v x.2.2/\Rep K H ι p.2 v
def Ze0 (a:Ve) (xs:List (Int×Vb)) (h:Vz):Prop:=∀ (p:Vh) (w:Vu),h.DictOf (Zvh p w) a xs
theorem Ze0.keep {a:Ve} {xs:List (Int×Vb)} {h1 h2:Vz} (d:Ze0 a xs h1) (k:∀ o,h1.get? a=some o->h2.get? a=some o):Ze0 a xs h2:=fun p w=>by
 obtain⟨o,es,ep,e,r⟩:=d p w
 exact⟨o,es,ep,k o e,r⟩
def Zww (K:Xb) (H:Hp) (ι:List Ve) (p:Int×D) (x:Int×Vb):Prop:=p.1=x.1/\∃ v,Zcg v x.2/\Rep K H ι p.2 v
nonrec def nk2:D->Option (Int×List Int)
 | .tup [a,b]=>(nkOf a).bind fun i=>(nk b).map fun ks=>(i,ks)
 | _=>none
nonrec def nHash (k:Int×List Int):Int:=reduceHash (Tbl [Ueb k.1,Yb6 k.2])
def DcnAt (a:Ve) (xs:List ((Int×List Int)×Ve×Vb)) (h:Vz):Prop :=
 ∃ o es ep,h.get? a=some o/\o.ExactDict/\o.data=.dict es ep/\es.toList=xs.map (fun x=>(⟨nHash x.1,.ref x.2.1,x.2.2⟩:Uak))/\(xs.map (·.1)).Nodup
def NRep (K:Xb) (H:Hp) (ι:List Ve) (p:D×D) (x:(Int×List Int)×Ve×Vb):Prop:=nk2 p.1=some x.1/\Rep K H ι p.1 (.ref x.2.1)/\∃ v,Zcg v x.2.2/\Rep K H ι p.2 v
def FRep (K:Xb) (H:Hp) (ι:List Ve) (p:Str×D) (x:Str×V):Prop:=p.1=x.1/\Rep K H ι p.2 x.2
def ExcAt (a C:Ve) (h:Vz):Prop:=∃ o,h.get? a=some o/\o.cls=.ref C
nonrec def fzO (a:Ve) (o:Obj):HO:=.frz o (.ext fun h=>h.get? a=some o)
nonrec def Yct:Uae->Pos
 | .FunctionDef _ _ _ _ _ _ _ _ _ p=>p
 | _=>default
nonrec def Ya5:Uae->Str
 | .FunctionDef n _ _ _ _ _ _ _ _ _=>n
 | _=>default
def Zi8 (K:Xb) (n:String) (st:Uae):Prop:=∃ f0 o0 fd0 rest,Wcq K Vl (Ua n)=some (some (.ref f0))/\K.lookup f0=some o0/\o0.data=.func fd0/\fd0.body=.stmts (st::rest)
def Zqk (H:Hp) (c':Ve) (qual:Str):Prop:=∃ o vs t,H c'=some (fzO c' o)/\o.data=.fields vs/\vs[1]? = some (.str qual t)
def Zri (K:Xb) (H:Hp) (n:String) (x:Str) (a:Ve) (w:V):Prop :=
 ∃ st nm qual doc pm ct c c' oc uc u,Zi8 K n st/\H a=some (fzO a (PySem.W.fnMade nm qual (Zck st) (Za7 st) (Zad st) [(x,c)] doc pm c' ct))/\Zqk H c' qual/\H c=some (.frz oc uc)/\oc.data=.cell (some u)/\Zcg w u
def TabAt (K:Xb) (H:Hp) (n:String) (a:Ve) (b:Bool):Prop :=
 ∃ st c ps,Zi8 K n st/\PySem.W.tabIn K (Ua n)=some (c,a)/\H a=some (.tbl ps)/\TriplesOk ps.toList/\(b=false->codeAmong (Yct st) ps.toList=none) /\
  (b=true->∃ c',codeAmong (Yct st) ps.toList=some (.ref c')/\Zqk H c' (Ua n ++ ".<locals>." ++ Ya5 st))
nonrec def Zqi (K:Xb) (H:Hp) (ι:List Ve) (a:Ve):DO->Prop
 | .lst ds=>∃ vs,H a=some (.lst vs)/\Vj (Rep K H ι) ds vs
 | .dic kvs fz=>(a==Uad)=false/\kvs.length<=sizeLine/\∃ xs,(if fz=true then ∃ o,H a=some (.frz o (.ext (Zda a xs))) else H a=some (.ext (Zda a xs)))/\Vj (Zrk K H ι) kvs xs
 | .dci kvs=>(a==Uad)=false/\kvs.length<=sizeLine/\∃ xs,H a=some (.ext (Ze0 a xs))/\Vj (Zww K H ι) kvs xs
 | .dcn kvs=>(a==Uad)=false/\kvs.length<=sizeLine/\∃ xs,H a=some (.ext (DcnAt a xs))/\Vj (NRep K H ι) kvs xs
 | .obj cn fs=>∃ C dx xs,Wcq K Vl cn=some (some (.ref C))/\H a=some (.ins C dx xs)/\Vj (FRep K H ι) fs xs
 | .exc cn=>∃ C,Wcq K Vl cn=some (some (.ref C))/\H a=some (.ext (ExcAt a C))
 | .clo n x d=>∃ w,Zri K H n x a w/\Rep K H ι d w
 | .tab n b=>TabAt K H n a b
structure HRep (K:Xb) (H:Hp) (ι:List Ve) (Hd:HD):Prop where
 len:ι.length=Hd.length
 nd:ι.Nodup
 obj:∀ (n:Nat) (a:Ve) (o:DO),ι[n]? = some a->Hd[n]? = some o->Zqi K H ι a o
theorem Zqi.there {a:Ve} {o:DO} (h:Zqi K H ι a o):H a≠none:=by
 cases o with
 | lst ds=>obtain⟨vs,e,_⟩:=h; rw[e]; simp
 | dic kv fz =>
  obtain⟨_,_,xs,e,_⟩:=h
  cases fz with
  | true=>rw[if_pos rfl] at e; obtain⟨ob,e⟩:=e; rw[e]; simp
  | false=>rw[if_neg (by simp)] at e; rw[e]; simp
 | dci kv=>obtain⟨_,_,xs,e,_⟩:=h; rw[e]; simp
 | dcn kv=>obtain⟨_,_,xs,e,_⟩:=h; rw[e]; simp
 | obj cn fs=>obtain⟨C,dx,xs,_,e,_⟩:=h; rw[e]; simp
 | exc cn=>obtain⟨C,_,e⟩:=h; rw[e]; simp
 | clo n x d=>obtain⟨w,⟨_,_,_,_,_,_,_,_,_,_,_,_,e,_⟩,_⟩:=h; rw[e]; simp
 | tab n b=>obtain⟨_,_,_,_,_,e,_⟩:=h; rw[e]; simp
theorem Zqk.step {c':Ve} {qual:Str} (h:Zqk H c' qual) (l:Lw K H ι H' ι'):Zqk H' c' qual:=by
 obtain⟨o,vs,t,e,r⟩:=h
 exact⟨o,vs,t,l.fr _ _ _ e,r⟩
theorem Zri.step {n:String} {x:Str} {a:Ve} {w:V} (h:Zri K H n x a w) (l:Lw K H ι H' ι'):Zri K H' n x a w:=by
 obtain⟨st,nm,qual,doc,pm,ct,c,c',oc,uc,u,h1,h2,h3,h4,h5⟩:=h
 exact⟨st,nm,qual,doc,pm,ct,c,c',oc,uc,u,h1,l.fr _ _ _ h2,h3.step l,l.fr _ _ _ h4,h5⟩
theorem Zqi.step {a:Ve} {o:DO} (h:Zqi K H ι a o) (l:Lw K H ι H' ι') (e:H' a=H a):Zqi K H' ι' a o:=by
 cases o with
 | lst ds=>obtain⟨vs,q,r⟩:=h; exact⟨vs,by rw[e,q],Prd.monoW l r⟩
 | dic kv fz=>obtain⟨h1,h2,xs,q,r⟩:=h; exact⟨h1,h2,xs,by rw[e]; exact q,Prd.imp r fun p x _ z=>⟨z.1,Rep.monoW l z.2.1,let ⟨v,z1,z2⟩:=z.2.2; ⟨v,z1,Rep.monoW l z2⟩⟩⟩
 | dci kv=>obtain⟨h1,h2,xs,q,r⟩:=h; exact⟨h1,h2,xs,by rw[e]; exact q,Prd.imp r fun p x _ z=>⟨z.1,let ⟨v,z1,z2⟩:=z.2; ⟨v,z1,Rep.monoW l z2⟩⟩⟩
 | dcn kv=>obtain⟨h1,h2,xs,q,r⟩:=h; exact⟨h1,h2,xs,by rw[e]; exact q,Prd.imp r fun p x _ z=>⟨z.1,Rep.monoW l z.2.1,let ⟨v,z1,z2⟩:=z.2.2; ⟨v,z1,Rep.monoW l z2⟩⟩⟩
 | obj cn fs=>obtain⟨C,dx,xs,h1,q,r⟩:=h; exact⟨C,dx,xs,h1,by rw[e]; exact q,Prd.imp r fun p x _ z=>⟨z.1,Rep.monoW l z.2⟩⟩
 | exc cn=>obtain⟨C,h1,q⟩:=h; exact⟨C,h1,by rw[e]; exact q⟩
 | clo n x d=>obtain⟨w,h1,h2⟩:=h; exact⟨w,h1.step l,Rep.monoW l h2⟩
 | tab n b =>
  obtain⟨st,c,ps,h1,h2,h3,h4,h5,h6⟩:=h
  refine⟨st,c,ps,h1,h2,by rw[e]; exact h3,h4,h5,fun hb=>?_⟩
  obtain⟨c',h7,h8⟩:=h6 hb
  exact⟨c',h7,h8.step l⟩
theorem HRep.at {Hd:HD} (h:HRep K H ι Hd) {n:Nat} {o:DO} (e:Hd[n]? = some o):∃ a,ι[n]? = some a/\Zqi K H ι a o:=by
 have hl:n<ι.length:=by rw[h.len]; exact(Xc.mp e).1
 exact⟨ι[n],by simp[hl],h.obj n _ o (by simp[hl]) e⟩
theorem HRep.has {Hd:HD} (h:HRep K H ι Hd) {a:Ve} (hm:a∈ι):∃ (n:Nat) (o:DO),ι[n]? = some a/\Hd[n]? = some o/\Zqi K H ι a o:=by
 obtain⟨n,hn⟩:=Wbn.mp hm
 have hl:n<Hd.length:=by rw[<- h.len]; exact(Xc.mp hn).1
 exact⟨n,Hd[n],hn,by simp[hl],h.obj n a Hd[n] hn (by simp[hl])⟩
theorem HRep.fresh {Hd:HD} (h:HRep K H ι Hd) {p:Ve} (hp:H p=none):p∉ι:=fun hm=>by
 obtain⟨_,_,_,_,o⟩:=h.has hm
 exact o.there hp
theorem HRep.keep {Hd:HD} (h:HRep K H ι Hd) (l:Lw K H ι H' ι) (e:∀ a∈ι,H' a=H a):HRep K H' ι Hd :=
 ⟨h.len,h.nd,fun n a o h1 h2=>(h.obj n a o h1 h2).step l (e a (Xu h1))⟩
theorem Lw.fresh {p:Ve} (hp:H p=none) (o:HO):Lw K H ι (upd H p o) ι where
 tup:=fun a xs h=>by
  rcases h with (h | ⟨ob,h⟩) | h
  ·exact .inl (.inl (by rw[Zah (Zai h hp)]; exact h))
  ·exact .inl (.inr ⟨ob,by rw[Zah (Zai h hp)]; exact h⟩)
  ·exact .inr h
 fz:=fun a xs h=>by
  rcases h with ⟨ob,h⟩ | h
  ·exact .inl ⟨ob,by rw[Zah (Zai h hp)]; exact h⟩
  ·exact .inr h
 pre:=⟨[],by simp⟩
 fr:=fun a ob u h=>by rw[Zah (Zai h hp)]; exact h
theorem Le.fresh {p:Ve} (hp:H p=none) (o:HO):Le K H ι (upd H p o) ι:=⟨Lw.fresh hp o,fun a ob h n=>⟨by rw[Zah (Zai h hp)]; exact h,n⟩⟩
theorem Le.fresh1 {p:Ve} (hp:H p=none) (o:HO):Le K H ι (upd H p o) (ι++[p]) where
 tup:=(Le.fresh (ι:=ι) hp o).tup
 fz:=(Le.fresh (ι:=ι) hp o).fz
 pre:=⟨[p],rfl⟩
 fr:=(Le.fresh (K:=K) (ι:=ι) hp o).fr
 frame:=fun a ob h n=>⟨by rw[Zah (Zai h hp)]; exact h,by
  have:=Zai h hp
  simp[n,this]⟩
theorem HRep.tup {Hd:HD} (h:HRep K H ι Hd) {p:Ve} (hp:H p=none) (o:HO):HRep K (upd H p o) ι Hd :=
 h.keep (Lw.fresh hp o) fun a ha=>Zah fun z=>by subst z; exact h.fresh hp ha
theorem HRep.new {Hd:HD} (h:HRep K H ι Hd) {p:Ve} (hp:H p=none) {u:HO} {o:DO} (ho:Zqi K (upd H p u) (ι++[p]) p o):HRep K (upd H p u) (ι++[p]) (Hd++[o]):=by
 have hf:=h.fresh hp
 refine⟨by simp[h.len],by simp only[Wat,h.nd,true_and]; exact⟨by simp,fun a ha b hb e=>hf (by simp at hb; rw[<- hb,<- e]; exact ha)⟩,fun n a ob h1 h2=>?_⟩
 by_cases hn:n<ι.length
 ·rw[Xg hn] at h1
  rw[Xg (by rw[<- h.len]; exact hn)] at h2
  have ha:a∈ι:=Xu h1
  exact(h.obj n a ob h1 h2).step (Le.fresh1 hp u).toLw (Zah fun z=>by subst z; exact hf ha)
 ·rw[Xo (by omega)] at h1
  rw[Xo (by rw[<- h.len]; omega)] at h2
  rw[<- h.len] at h2
  have:n - ι.length=0:=by
   have:=(Xc.mp h1).1
   simp at this; omega
  rw[this] at h1 h2
  simp at h1 h2
  subst h1; subst h2
  exact ho
nonrec def Ybd:HO->Prop
 | .lst _=>True
 | .ext _=>True
 | .ins _ _ _=>True
 | .tbl _=>True
 | _=>False
theorem Le.upd {a:Ve} (ha:a∈ι) {o:HO} (e:H a=some o) (lo:Ybd o) (u:HO):Le K H ι (upd H a u) ι where
 tup:=fun b xs h=>by
  rcases h with (h | ⟨ob,h⟩) | h
  ·refine .inl (.inl ?_)
   rw[Zah (Zna h e (by rintro rfl; exact lo))]; exact h
  ·refine .inl (.inr ⟨ob,?_⟩)
   rw[Zah (Zna h e (by rintro rfl; exact lo))]; exact h
  ·exact .inr h
 fz:=fun b xs h=>by
  rcases h with ⟨ob,h⟩ | h
  ·refine .inl ⟨ob,?_⟩
   rw[Zah (Zna h e (by rintro rfl; exact lo))]; exact h
  ·exact .inr h
 pre:=⟨[],by simp⟩
 fr:=fun b ob w h=>by rw[Zah (Zna h e (by rintro rfl; exact lo))]; exact h
 frame:=fun b ob h n=>⟨by rw[Zah (by rintro rfl; exact n ha)]; exact h,n⟩
theorem HRep.upd {Hd:HD} (h:HRep K H ι Hd) {n:Nat} {a:Ve} (hn:ι[n]? = some a) {o u:HO} (e:H a=some o) (lo:Ybd o) {ob:DO} (ho:Zqi K (upd H a u) ι a ob):HRep K (upd H a u) ι (Hd.set n ob):=by
 refine⟨by simp[h.len],h.nd,fun m b oc h1 h2=>?_⟩
 by_cases hm:n=m
 ·subst hm
  rw[hn] at h1; cases h1
  rw[Wdd] at h2
  rw[if_pos rfl] at h2
  split at h2
  ·cases h2; exact ho
  ·cases h2
 ·rw[Wal hm] at h2
  have hb:b≠a:=fun z=>by
   subst z
   have l1:=(Xc.mp hn).1
   exact hm ((Wfi l1 h.nd).mp (hn.trans h1.symm))
  exact(h.obj m b oc h1 h2).step (Le.upd (Xu hn) e lo u).toLw (Zah hb)
theorem HRep.add {Hd:HD} (h:HRep K H ι Hd) {p:Ve} (hp:p∉ι) {o:DO} (ho:Zqi K H (ι++[p]) p o):HRep K H (ι++[p]) (Hd++[o]):=by
 refine⟨by simp[h.len],by simp only[Wat,h.nd,true_and]; exact⟨by simp,fun a ha b hb e=>hp (by simp at hb; rw[<- hb,<- e]; exact ha)⟩,fun n a ob h1 h2=>?_⟩
 by_cases hn:n<ι.length
 ·rw[Xg hn] at h1
  rw[Xg (by rw[<- h.len]; exact hn)] at h2
  exact(h.obj n a ob h1 h2).step ⟨fun _ _ z=>z,fun _ _ z=>z,⟨[p],rfl⟩,fun _ _ _ z=>z⟩ rfl
 ·rw[Xo (by omega)] at h1
  rw[Xo (by rw[<- h.len]; omega)] at h2
  rw[<- h.len] at h2
  have:n - ι.length=0:=by
   have:=(Xc.mp h1).1
   simp at this; omega
  rw[this] at h1 h2
  simp at h1 h2
  subst h1; subst h2
  exact ho
theorem Lw.side {p:Ve} {ys:List V} (hp:H p=some (.lst ys)) (u:HO):Lw K H ι (L2.upd H p u) ι where
 tup:=fun a xs h=>by
  rcases h with (h | ⟨ob,h⟩) | h
  ·refine .inl (.inl ?_)
   rw[Zah (Zna h hp (by intro z; cases z))]; exact h
  ·refine .inl (.inr ⟨ob,?_⟩)
   rw[Zah (Zna h hp (by intro z; cases z))]; exact h
  ·exact .inr h
 fz:=fun a xs h=>by
  rcases h with ⟨ob,h⟩ | h
  ·refine .inl ⟨ob,?_⟩
   rw[Zah (Zna h hp (by intro z; cases z))]; exact h
  ·exact .inr h
 pre:=⟨[],by simp⟩
 fr:=fun a ob w h=>by rw[Zah (Zna h hp (by intro z; cases z))]; exact h
theorem Lw.trans {H1 H2:Hp} {ι1 ι2:List Ve} (a:Lw K H ι H1 ι1) (b:Lw K H1 ι1 H2 ι2):Lw K H ι H2 ι2:=by
 refine⟨fun x xs h=>b.tup x xs (a.tup x xs h),fun x xs h=>b.fz x xs (a.fz x xs h),?_,fun x o u h=>b.fr x o u (a.fr x o u h)⟩
 obtain⟨t,e⟩:=a.pre
 obtain⟨u,e'⟩:=b.pre
 exact⟨t++u,by rw[e',e,Xw]⟩
theorem Le.side {H1:Hp} {ι1:List Ve} {p:Ve} {ys:List V} (l:Le K H ι H1 ι1) (h0:H p=none) (h1:H1 p=some (.lst ys)) (u:HO):Le K H ι (L2.upd H1 p u) ι1 :=
 ⟨l.toLw.trans (Lw.side h1 u),fun a o h n=>by
  obtain⟨q,m⟩:=l.frame a o h n
  exact⟨by rw[Zah (Zai h h0)]; exact q,m⟩⟩
structure SRep (K:Xb) (H:Hp) (ι:List Ve) (σ:L2.St) (σd:SD):Prop where
 len:σ.length=σd.length
 var:∀ (i:Nat) (d:D),σd[i]? = some (some d)->∃ v,σ[i]? = some (some v)/\Rep K H ι d v
theorem SRep.mono {σ:L2.St} {σd:SD} (s:SRep K H ι σ σd) (l:Le K H ι H' ι'):SRep K H' ι' σ σd :=
 ⟨s.len,fun i d h=>let ⟨v,h1,h2⟩:=s.var i d h; ⟨v,h1,h2.mono l⟩⟩
theorem SRep.set {σ:L2.St} {σd:SD} {d:D} {v:V} (s:SRep K H ι σ σd) (r:Rep K H ι d v) (i:Nat):SRep K H ι (σ.set i (some v)) (σd.set i (some d)):=by
 refine⟨by simp[s.len],fun j e h=>?_⟩
 by_cases hj:i=j
 ·subst hj
  rw[Wdd] at h ⊢
  rw[if_pos rfl] at h ⊢
  split at h
  ·rename_i hl
   rw[if_pos (by rw[s.len]; exact hl)]
   cases h
   exact⟨v,rfl,r⟩
  ·cases h
 ·rw[Wal hj] at h ⊢
  exact s.var j e h
end
nonrec def Zp5:Vv->Bool
 | .Starred _ _=>false
 | _=>true
theorem Zb3 {e:Vv} {es:List Vv} {env:Env} (h:Zp5 e=true):Vg (e::es) env=(false,eval e env)::Vg es env:=by
 cases e<;>first | rfl | cases h
theorem Zc2 {pos:Pos} {env:Env}:∀ {es:List Vv},es.all Zp5=true->(Ual pos (Vg es env)).any (·.1)=false
 | [],_=>rfl
 | e::es,h=>by
  rw[Wcu,Wam] at h
  rw[Zb3 h.1]
  show (false||(Ual pos (Vg es env)).any (·.1))=false
  rw[Zc2 h.2]
  rfl
theorem Zp4 {pos:Pos} {env:Env} {es:List Vv} (h:es.all Zp5=true) (hl:es.length<30):((Ual pos (Vg es env)).all (fun x => !x.1)&&(Ucw pos (Ubh [] env)).all (fun x=>x.1.isSome)
   && decide (es.length+([]:List Ubz).length+(if ([]:List Ubz).isEmpty then 0 else 1)<30))=true:=by
 have h1:=Zc2 (pos:=pos) (env:=env) h
 have h2:(Ual pos (Vg es env)).all (fun x => !x.1)=true:=by
  rw[Wab]
  intro x hx
  rw[Wcm] at h1
  have:=h1 x hx
  simpa using this
 have h3:decide (es.length+([]:List Ubz).length+(if ([]:List Ubz).isEmpty then 0 else 1)<30)=true:=by
  rw[decide_eq_true_eq]
  simpa using hl
 rw[h2,h3]
 rfl
nonrec abbrev EF:=SD->HD->Option (D×HD)
nonrec abbrev TF:=SD->HD->Option (Bool×HD)
nonrec abbrev AF:=SD->HD->Option (List D×HD)
inductive FD where
 | nx | bk | ct | rt (d:D)
nonrec abbrev SF:=SD->HD->Option (FD×SD×HD)
nonrec abbrev GF:=D->SD->HD->Option (SD×HD)
nonrec abbrev FF:=List D->HD->Option (D×HD)
nonrec abbrev F2:=D->D->HD->Option (D×HD)
def QE (K:Xb) (H:Hp) (ι:List Ve) (d:D) (Hd':HD) (Q:VK):Prop:=∀ v H' ι',Le K H ι H' ι'->HRep K H' ι' Hd'->Rep K H' ι' d v->Q v H'
nonrec def rdE (K:Xb) (f:EF):TE:=fun σ H Q=>∃ ι σd Hd d Hd',SRep K H ι σ σd/\HRep K H ι Hd/\f σd Hd=some (d,Hd')/\QE K H ι d Hd' Q
nonrec def rdT (K:Xb) (f:TF):TT:=fun σ H Q=>∃ ι σd Hd b Hd',SRep K H ι σ σd/\HRep K H ι Hd/\f σd Hd=some (b,Hd')/\∀ H' ι',Le K H ι H' ι'->HRep K H' ι' Hd'->Q b H'
nonrec def rdA (K:Xb) (f:AF):TA:=fun σ H Q=>∃ ι σd Hd ds Hd',SRep K H ι σ σd/\HRep K H ι Hd/\f σd Hd=some (ds,Hd')/\∀ vs H' ι',Le K H ι H' ι'->HRep K H' ι' Hd'->Vj (Rep K H' ι') ds vs->Q vs H'
def QS (K:Xb) (H:Hp) (ι:List Ve) (fl:FD) (σd':SD) (Hd':HD) (E:Ends):Prop:=∀ σ' H' ι',Le K H ι H' ι'->HRep K H' ι' Hd'->SRep K H' ι' σ' σd' ->
 match fl with
 | .nx=>E.nx σ' H'
 | .bk=>E.bk σ' H'
 | .ct=>E.ct σ' H'
 | .rt d=>∀ v,Rep K H' ι' d v->E.rt v H'
nonrec def rdS (K:Xb) (f:SF):TS:=fun E σ H=>∃ ι σd Hd fl σd' Hd',SRep K H ι σ σd/\HRep K H ι Hd/\f σd Hd=some (fl,σd',Hd')/\QS K H ι fl σd' Hd' E
nonrec def rdG (K:Xb) (g:GF):TG:=fun v σ H Q=>∃ ι σd Hd d σd' Hd',SRep K H ι σ σd/\HRep K H ι Hd/\Rep K H ι d v/\g d σd Hd=some (σd',Hd') /\
 ∀ σ' H' ι',Le K H ι H' ι'->HRep K H' ι' Hd'->SRep K H' ι' σ' σd'->Q σ' H'
nonrec def rd2 (K:Xb) (g:F2):R2:=fun x y H Q=>∃ ι dx dy Hd d Hd',HRep K H ι Hd/\Rep K H ι dx x/\Rep K H ι dy y/\g dx dy Hd=some (d,Hd')/\QE K H ι d Hd' Q
nonrec def rd1 (K:Xb) (g:D->HD->Option (D×HD)):V->Hp->VK->Prop:=fun x H Q=>∃ ι dx Hd d Hd',HRep K H ι Hd/\Rep K H ι dx x/\g dx Hd=some (d,Hd')/\QE K H ι d Hd' Q
nonrec def rdC (K:Xb) (g:FF):List V->Hp->VK->Prop:=fun vs H Q=>∃ ι ds Hd d Hd',HRep K H ι Hd/\Vj (Rep K H ι) ds vs/\g ds Hd=some (d,Hd')/\QE K H ι d Hd' Q
nonrec def rdM (K:Xb) (g:D->List D->HD->Option (D×HD)):V->List V->Hp->VK->Prop:=fun v vs H Q=>∃ ι x ds Hd d Hd',HRep K H ι Hd/\Rep K H ι x v/\Vj (Rep K H ι) ds vs/\g x ds Hd=some (d,Hd')/\QE K H ι d Hd' Q
def PEf (X:Cx) (e:Vv) (f:EF):Prop:=PE X e (rdE X.K f)
def PTf (X:Cx) (e:Vv) (f:TF):Prop:=PT X e (rdT X.K f)
def PWf (X:Cx) (e:Vv) (f:TF):Prop:=PW X e (rdT X.K f)
def PAf (X:Cx) (es:List Vv) (f:AF):Prop:=PA X es (rdA X.K f)
def PSf (X:Cx) (st:Uae) (f:SF):Prop:=PS X st (rdS X.K f)
def Znr (X:Cx) (st:List Uae) (f:SF):Prop:=PSs X st (rdS X.K f)
def PGf (X:Cx) (tg:Vv) (g:GF):Prop:=PG X tg (rdG X.K g)
def OpF (X:Cx) (f:Vb->Vb->Sem Vb) (g:F2):Prop:=OpR X f (rd2 X.K g)
def UnF (X:Cx) (f:Vb->Sem Vb) (g:D->HD->Option (D×HD)):Prop:=UnR X f (rd1 X.K g)
def Zih (X:Cx) (f:Vb) (g:FF):Prop:=Zjs X f (rdC X.K g)
def IxF (X:Cx) (g:F2):Prop:=IxR X (rd2 X.K g)
def MtF (X:Cx) (id:String) (g:D->List D->HD->Option (D×HD)):Prop:=MtR X id (rdM X.K g)
section
variable {X:Cx} {e a b c:Vv} {es:List Vv} {pos:Pos} {st:Uae} {sts:List Uae}
theorem PEi {t t':TE} (h:PE X e t) (i:∀ σ H Q,t' σ H Q->t σ H Q):PE X e t':=fun pins s σ H Q I q=>h pins s σ H Q I (i σ H Q q)
theorem PTi {t t':TT} (h:PT X e t) (i:∀ σ H Q,t' σ H Q->t σ H Q):PT X e t':=fun pins s σ H Q I q=>h pins s σ H Q I (i σ H Q q)
theorem PWi {t t':TT} (h:PW X e t) (i:∀ σ H Q,t' σ H Q->t σ H Q):PW X e t':=fun wh pins s σ H Q I q=>h wh pins s σ H Q I (i σ H Q q)
theorem PAi {t t':TA} (h:PA X es t) (i:∀ σ H Q,t' σ H Q->t σ H Q):PA X es t':=fun ps pins s σ H Q I q=>h ps pins s σ H Q I (i σ H Q q)
theorem PSi {t t':TS} (h:PS X st t) (i:∀ E σ H,t' E σ H->t E σ H):PS X st t':=fun pins s σ H E I q=>h pins s σ H E I (i E σ H q)
theorem PSsi {t t':TS} (h:PSs X sts t) (i:∀ E σ H,t' E σ H->t E σ H):PSs X sts t':=fun pins s σ H E I q=>h pins s σ H E I (i E σ H q)
theorem PGi {t t':TG} (h:PG X e t) (i:∀ v σ H Q,t' v σ H Q->t v σ H Q):PG X e t':=fun pins s σ H v u Q I r q=>h pins s σ H v u Q I r (i v σ H Q q)
theorem OpRi {f:Vb->Vb->Sem Vb} {t t':R2} (h:OpR X f t) (i:∀ x y H Q,t' x y H Q->t x y H Q):OpR X f t':=fun pins s σ H x y v u Q I r1 r2 q=>h pins s σ H x y v u Q I r1 r2 (i x y H Q q)
nonrec def Zac (i:Nat):EF:=fun σ H=>(σ[i]?).join.map fun d=>(d,H)
nonrec def eC (d:D):EF:=fun _ H=>some (d,H)
theorem Zaa {i:Nat} {x:Str} (h:PE X (.Name x pos) (Ya2 i)):PEf X (.Name x pos) (Zac i):=by
 refine PEi h fun σ H Q zz=>?_
 obtain⟨ι,σd,Hd,d,Hd',s,hr,e,q⟩:=zz
 unfold Zac at e
 cases hx:σd[i]? with
 | none=>rw[hx] at e; cases e
 | some o =>
  cases o with
  | none=>rw[hx] at e; cases e
  | some d0 =>
   rw[hx] at e
   have e':(d0,Hd)=(d,Hd'):=Xy.inj e
   obtain⟨rfl,rfl⟩:=Wbe.inj e'
   obtain⟨v,h1,h2⟩:=s.var i d0 hx
   exact⟨v,h1,q v H ι Le.refl hr h2⟩
theorem Zny {v:V} {d:D} (h:PE X e (tC v)) (r:∀ H ι,Rep X.K H ι d v):PEf X e (eC d):=by
 refine PEi h fun σ H Q zz=>?_
 obtain⟨ι,σd,Hd,d',Hd',s,hr,e,q⟩:=zz
 cases e
 exact q v H ι Le.refl hr (r H ι)
theorem Zae {i j}:PEf X (.Constant (.int i) j pos) (eC (.int i)):=Zny Zx7 fun _ _=>by simp
theorem Zo6 {b j}:PEf X (.Constant (.bool b) j pos) (eC (.bl b)):=Zny pe_bl fun _ _=>by simp
theorem Zid {j}:PEf X (.Constant .none j pos) (eC .non):=Zny Ydr fun _ _=>by simp
theorem Zbe {x j}:PEf X (.Constant (.str x) j pos) (eC (.str x)):=Zny Ycv fun _ _=>by simp
theorem Ziu {x:Str} {n:String} (hg:Gl X x) (hm:X.mg x=none) (hv:Vq x=some (.type n)) (hn:x ≠ "__name__" := by decide) (hd:(x==("__debug__" : Str))=false:=by decide) (ht:Zxz n=true:=by decide):PEf X (.Name x pos) (eC (.ty n)) :=
 Zny (Zzu (v:=.ty n) hg hm hv rfl hn hd) fun _ _=>(Zyf ht).mpr rfl
nonrec def eOp (g:F2) (fa fb:EF):EF:=fun σ H=>(fa σ H).bind fun p=>(fb σ p.2).bind fun q=>g p.1 q.1 q.2
theorem Zwd {fa fb:EF} {g:F2} {σ:L2.St} {H:Hp} {Q:VK} {K:Xb} (h:rdE K (eOp g fa fb) σ H Q):tOp (rd2 K g) (rdE K fa) (rdE K fb) σ H Q:=by
 obtain⟨ι,σd,Hd,d,Hd',s,hr,e,q⟩:=h
 obtain⟨⟨x,H1⟩,e1,e⟩:=Zo e
 obtain⟨⟨y,H2⟩,e2,e⟩:=Zo e
 exact⟨ι,σd,Hd,x,H1,s,hr,e1,fun v1 H1' ι1 l1 h1 r1=>⟨ι1,σd,H1,y,H2,s.mono l1,h1,e2,fun v2 H2' ι2 l2 h2 r2 =>
  ⟨ι2,x,y,H2,d,Hd',h2,r1.mono l2,r2,e,fun v H' ι' l h r=>q v H' ι' ((l1.trans l2).trans l) h r⟩⟩⟩
theorem Zat {op:Udz} {g:F2} {fa fb:EF} (ho:OpF X (Vy op) g) (ha:PEf X a fa) (hb:PEf X b fb):PEf X (.BinOp a op b pos) (eOp g fa fb) :=
 PEi (pe_op ho ha hb) fun _ _ _ h=>Zwd h
theorem Zeu {op:CmpOp} {g:F2} {fa fb:EF} (ho:OpF X (Vr op) g) (ha:PEf X a fa) (hb:PEf X b fb) (hm:Uba op b=false):PEf X (.Compare a [op] [b] pos) (eOp g fa fb) :=
 PEi (Zz4 ho ha hb hm) fun _ _ _ h=>Zwd h
theorem Zaw {g:F2} {fa fb:EF} (ho:IxF X g) (ha:PEf X a fa) (hb:PEf X b fb) (hs:Zr3 b):PEf X (.Subscript a b pos) (eOp g fa fb) :=
 PEi (pe_ix ho ha hb hs) fun _ _ _ h=>Zwd h
nonrec def eUn (g:D->HD->Option (D×HD)) (fa:EF):EF:=fun σ H=>(fa σ H).bind fun p=>g p.1 p.2
theorem Zel {op:UnaryOp} {g:D->HD->Option (D×HD)} {fa:EF} (ho:UnF X (unaryOp op) g) (ha:PEf X a fa):PEf X (.UnaryOp op a pos) (eUn g fa):=by
 refine PEi (pe_un ho ha) fun σ H Q zz=>?_
 obtain⟨ι,σd,Hd,d,Hd',s,hr,e,q⟩:=zz
 obtain⟨⟨x,H1⟩,e1,e⟩:=Zo e
 exact⟨ι,σd,Hd,x,H1,s,hr,e1,fun v1 H1' ι1 l1 h1 r1=>⟨ι1,x,H1,d,Hd',h1,r1,e,fun v H' ι' l h r=>q v H' ι' (l1.trans l) h r⟩⟩
nonrec def blD:D->Option Bool
 | .bl b=>some b
 | _=>none
nonrec def tOf (f:EF):TF:=fun σ H=>(f σ H).bind fun p=>(blD p.1).map fun b=>(b,p.2)
theorem Zks {K:Xb} {H:Hp} {ι:List Ve} {d:D} {b:Bool} {v:V} (e:blD d=some b) (r:Rep K H ι d v):v=.bl b:=by
 cases d<;>simp[blD] at e
 subst e
 simpa using r
theorem Zam {op:CmpOp} {g:F2} {fa fb:EF} (ho:OpF X (Vr op) g) (ha:PEf X a fa) (hb:PEf X b fb) (hm:Uba op b=false):PTf X (.Compare a [op] [b] pos) (tOf (eOp g fa fb)):=by
 refine PTi (Zzo ho ha hb hm) fun σ H Q zz=>?_
 obtain⟨ι,σd,Hd,bb,Hd',s,hr,e,q⟩:=zz
 obtain⟨⟨x,H1⟩,e1,e⟩:=Zo e
 obtain⟨b',eb,e⟩:=Zm e
 cases e
 exact Zwd ⟨ι,σd,Hd,x,H1,s,hr,e1,fun v H' ι' l h r=>⟨bb,Zks eb r,q H' ι' l h⟩⟩
nonrec def Zuv:D->HD->Option Bool
 | .non,_=>some false
 | .bl b,_=>some b
 | .int i,_=>some (i != 0)
 | .tup xs,_=>some (!xs.isEmpty)
 | .fl xs,_=>some (!xs.isEmpty)
 | .str x,_=>if x.length<=sizeLine then some ((x.length:Int) != 0) else none
 | .ref n,H=>match H[n]? with
  | some (.lst xs)=>some (!xs.isEmpty)
  | _=>none
 | _,_=>none
theorem Zil {α β:Type} {F:α->β->Prop} {xs:List α} {us:List β} (r:Vj F xs us):(!us.isEmpty) = !xs.isEmpty:=by cases r<;>rfl
theorem Zz6 {K:Xb} {H:Hp} {ι:List Ve} {Hd:HD} {d:D} {k:Bool} {v:V} (hr:HRep K H ι Hd) (r:Rep K H ι d v) (e:Zuv d Hd=some k):TruV K v H k:=by
 cases d with
 | non=>simp at r; subst r; simp[Zuv] at e; subst e; exact rfl
 | bl b=>simp at r; subst r; simp[Zuv] at e; subst e; exact rfl
 | int i=>simp at r; subst r; simp[Zuv] at e; subst e; exact rfl
 | ty n=>simp[Zuv] at e
 | str x =>
  simp at r; subst r
  simp only[Zuv] at e
  split at e
  ·rename_i hl
   cases e
   exact⟨hl,rfl⟩
  ·cases e
 | tup xs =>
  obtain⟨ad,vs,rfl,h,p⟩:=Zbc.mp r
  cases (show some (!xs.isEmpty)=some k from e)
  exact .inr (.inl ⟨vs,h,by rw[Zil p]⟩)
 | fl xs =>
  obtain⟨ad,vs,rfl,h,p⟩:=Zgq.mp r
  cases (show some (!xs.isEmpty)=some k from e)
  exact .inl ⟨vs,h.sq,by rw[Zil p]⟩
 | ref n =>
  obtain⟨ad,rfl,h⟩:=Za0.mp r
  simp only[Zuv] at e
  split at e
  ·rename_i xs ho
   cases e
   obtain⟨vs,h1,p⟩:=hr.obj n ad _ h ho
   exact .inl ⟨vs,SqL.of h1,by rw[Zil p]⟩
  ·cases e
nonrec def Zg7 (f:EF):TF:=fun σ H=>(f σ H).bind fun p=>(Zuv p.1 p.2).map fun b=>(b,p.2)
theorem Zgi {fa:EF} (ha:PEf X a fa) (he:∀ whole,isTrue a X.env whole=(do let v<-whole; standAt a.pos; Udi [v] (truthy v))):PTf X a (Zg7 fa):=by
 refine PTi (Zv9 ha he) fun σ H Q zz=>?_
 obtain⟨ι,σd,Hd,bb,Hd',s,hr,e,q⟩:=zz
 obtain⟨⟨x,H1⟩,e1,e⟩:=Zo e
 obtain⟨b',eb,e⟩:=Zm e
 cases e
 exact⟨ι,σd,Hd,x,H1,s,hr,e1,fun v H' ι' l h r=>⟨bb,Zz6 h r eb,q H' ι' l h⟩⟩
nonrec def tNo (t:TF):TF:=fun σ H=>(t σ H).map fun p=>(!p.1,p.2)
nonrec def tAn (t u:TF):TF:=fun σ H=>(t σ H).bind fun p=>if p.1=true then u σ p.2 else some (false,p.2)
nonrec def Zlm (t u:TF):TF:=fun σ H=>(t σ H).bind fun p=>if p.1=true then some (true,p.2) else u σ p.2
theorem Zzz {t:TF} (h:PTf X a t):PTf X (.UnaryOp .Not a pos) (tNo t):=by
 refine PTi (Ya0 h) fun σ H Q zz=>?_
 obtain⟨ι,σd,Hd,bb,Hd',s,hr,e,q⟩:=zz
 obtain⟨⟨x,H1⟩,e1,e⟩:=Zm e
 cases e
 exact⟨ι,σd,Hd,x,H1,s,hr,e1,fun H' ι' l h=>q H' ι' l h⟩
theorem Zp2 {t:TF} (h:PTf X a t):PWf X (.BoolOp .And [a] pos) t:=Zzf h
theorem Zy7 {t:TF} (h:PTf X a t):PWf X (.BoolOp .Or [a] pos) t:=Ycz h
theorem Zux {t u:TF} (h:PTf X a t) (h2:PWf X (.BoolOp .And (b::es) pos) u):PWf X (.BoolOp .And (a::b::es) pos) (tAn t u):=by
 refine PWi (Yds h h2) fun σ H Q zz=>?_
 obtain⟨ι,σd,Hd,bb,Hd',s,hr,e,q⟩:=zz
 obtain⟨⟨x,H1⟩,e1,e⟩:=Zo e
 refine⟨ι,σd,Hd,x,H1,s,hr,e1,fun H' ι' l h=>?_⟩
 cases x with
 | true =>
  rw[if_pos rfl]
  exact⟨ι',σd,H1,bb,Hd',s.mono l,h,by simpa using e,fun H2 ι2 l2 h2=>q H2 ι2 (l.trans l2) h2⟩
 | false =>
  rw[if_neg (by simp)]
  simp at e
  obtain⟨rfl,rfl⟩:=e
  exact q H' ι' l h
theorem Ybm {t u:TF} (h:PTf X a t) (h2:PWf X (.BoolOp .Or (b::es) pos) u):PWf X (.BoolOp .Or (a::b::es) pos) (Zlm t u):=by
 refine PWi (pw_or h h2) fun σ H Q zz=>?_
 obtain⟨ι,σd,Hd,bb,Hd',s,hr,e,q⟩:=zz
 obtain⟨⟨x,H1⟩,e1,e⟩:=Zo e
 refine⟨ι,σd,Hd,x,H1,s,hr,e1,fun H' ι' l h=>?_⟩
 cases x with
 | true =>
  rw[if_pos rfl]
  simp at e
  obtain⟨rfl,rfl⟩:=e
  exact q H' ι' l h
 | false =>
  rw[if_neg (by simp)]
  exact⟨ι',σd,H1,bb,Hd',s.mono l,h,by simpa using e,fun H2 ι2 l2 h2=>q H2 ι2 (l.trans l2) h2⟩
theorem PWf.pt {t:TF} (h:PWf X a t):PTf X a t:=h _
nonrec def eNo (f:EF):EF:=fun σ H=>(f σ H).bind fun p=>(blD p.1).map fun b=>(.bl (!b),p.2)
nonrec def eAn (f g:EF):EF:=fun σ H=>(f σ H).bind fun p=>(blD p.1).bind fun b=>if b=true then g σ p.2 else some (.bl false,p.2)
nonrec def eIf (t:TF) (f g:EF):EF:=fun σ H=>(t σ H).bind fun p=>if p.1=true then f σ p.2 else g σ p.2
theorem Zog {f:EF} (h:PEf X a f):PEf X (.UnaryOp .Not a pos) (eNo f):=by
 refine PEi (Yb5 h) fun σ H Q zz=>?_
 obtain⟨ι,σd,Hd,d,Hd',s,hr,e,q⟩:=zz
 obtain⟨⟨x,H1⟩,e1,e⟩:=Zo e
 obtain⟨b',eb,e⟩:=Zm e
 cases e
 exact⟨ι,σd,Hd,x,H1,s,hr,e1,fun v H' ι' l h r=>⟨b',Zks eb r,q _ H' ι' l h (by simp)⟩⟩
theorem Zky {op} {f:EF} (h:PEf X a f):PEf X (.BoolOp op [a] pos) f:=Yca h
theorem Yah {f g:EF} (h:PEf X a f) (h2:PEf X (.BoolOp .And (b::es) pos) g):PEf X (.BoolOp .And (a::b::es) pos) (eAn f g):=by
 refine PEi (Ybb h h2) fun σ H Q zz=>?_
 obtain⟨ι,σd,Hd,d,Hd',s,hr,e,q⟩:=zz
 obtain⟨⟨x,H1⟩,e1,e⟩:=Zo e
 obtain⟨b',eb,e⟩:=Zo e
 refine⟨ι,σd,Hd,x,H1,s,hr,e1,fun v H' ι' l h r=>⟨b',Zks eb r,?_⟩⟩
 cases b' with
 | true =>
  rw[if_pos rfl]
  exact⟨ι',σd,H1,d,Hd',s.mono l,h,by simpa using e,fun v2 H2 ι2 l2 h2 r2=>q v2 H2 ι2 (l.trans l2) h2 r2⟩
 | false =>
  rw[if_neg (by simp)]
  simp at e
  obtain⟨rfl,rfl⟩:=e
  exact q _ H' ι' l h (by simp)
theorem Zr2 {t:TF} {f g:EF} (hc:PTf X c t) (ha:PEf X a f) (hb:PEf X b g):PEf X (.IfExp c a b pos) (eIf t f g):=by
 refine PEi (Zwl hc ha hb) fun σ H Q zz=>?_
 obtain⟨ι,σd,Hd,d,Hd',s,hr,e,q⟩:=zz
 obtain⟨⟨x,H1⟩,e1,e⟩:=Zo e
 refine⟨ι,σd,Hd,x,H1,s,hr,e1,fun H' ι' l h=>?_⟩
 cases x with
 | true =>
  rw[if_pos rfl]
  exact⟨ι',σd,H1,d,Hd',s.mono l,h,by simpa using e,fun v2 H2 ι2 l2 h2 r2=>q v2 H2 ι2 (l.trans l2) h2 r2⟩
 | false =>
  rw[if_neg (by simp)]
  exact⟨ι',σd,H1,d,Hd',s.mono l,h,by simpa using e,fun v2 H2 ι2 l2 h2 r2=>q v2 H2 ι2 (l.trans l2) h2 r2⟩
nonrec def Zaf:AF:=fun _ H=>some ([],H)
nonrec def Zab (f:EF) (g:AF):AF:=fun σ H=>(f σ H).bind fun p=>(g σ p.2).map fun q=>(p.1::q.1,q.2)
theorem Za3:PAf X [] Zaf:=by
 refine PAi Ycr fun σ H Q zz=>?_
 obtain⟨ι,σd,Hd,d,Hd',s,hr,e,q⟩:=zz
 cases e
 exact q [] H ι Le.refl hr .nil
theorem Zvm {f:EF} {g:AF} (ha:PEf X e f) (hr:PAf X es g) (hs:Vg (e::es) X.env=(false,eval e X.env)::Vg es X.env:=by exact Zb3 rfl):PAf X (e::es) (Zab f g):=by
 refine PAi (Zyi ha hr hs) fun σ H Q zz=>?_
 obtain⟨ι,σd,Hd,d,Hd',s,hr,e,q⟩:=zz
 obtain⟨⟨x,H1⟩,e1,e⟩:=Zo e
 obtain⟨⟨y,H2⟩,e2,e⟩:=Zm e
 cases e
 exact⟨ι,σd,Hd,x,H1,s,hr,e1,fun v1 H1' ι1 l1 h1 r1=>⟨ι1,σd,H1,y,H2,s.mono l1,h1,e2,fun vs H2' ι2 l2 h2 r2=>q _ H2' ι2 (l1.trans l2) h2 (.cons (r1.mono l2) r2)⟩⟩
nonrec def mkT (xs:List D) (H:HD):Option (D×HD):=if xs.length<=sizeLine then some (.tup xs,H) else none
nonrec def mkL (xs:List D) (H:HD):Option (D×HD):=if xs.length<=sizeLine then some (.ref H.length,H++[.lst xs]) else none
theorem Zhv {xs:List D} {H:HD} {r:D×HD} (h:mkT xs H=some r):xs.length<=sizeLine/\r=(.tup xs,H):=by
 unfold mkT at h
 split at h
 ·rename_i hl; cases h; exact⟨hl,rfl⟩
 ·cases h
theorem Zlj {xs:List D} {H:HD} {r:D×HD} (h:mkL xs H=some r):xs.length<=sizeLine/\r=(.ref H.length,H++[.lst xs]):=by
 unfold mkL at h
 split at h
 ·rename_i hl; cases h; exact⟨hl,rfl⟩
 ·cases h
theorem Zii {K:Xb} {H:Hp} {ι:List Ve} {Hd Hd':HD} {xs:List D} {vs:List V} {d:D} {Q:VK} (hr:HRep K H ι Hd) (r:Vj (Rep K H ι) xs vs) (e:mkT xs Hd=some (d,Hd')) (q:QE K H ι d Hd' Q) :
  vs.length<=sizeLine/\∀ p,H p=none->Q (.ref p) (upd H p (.tup vs)):=by
 obtain⟨hl,e⟩:=Zhv e
 cases e
 refine⟨by rw[<- Prd.len r]; exact hl,fun p hp=>?_⟩
 exact q _ _ ι (Le.fresh hp _) (hr.tup hp _) (Zbc.mpr ⟨p,vs,rfl,SqT.of Zaq,Prd.mono (Le.fresh hp _) r⟩)
theorem Zga {K:Xb} {H:Hp} {ι:List Ve} {Hd Hd':HD} {xs:List D} {vs:List V} {d:D} {Q:VK} (hr:HRep K H ι Hd) (r:Vj (Rep K H ι) xs vs) (e:mkL xs Hd=some (d,Hd')) (q:QE K H ι d Hd' Q) :
  vs.length<=sizeLine/\∀ p,H p=none->Q (.ref p) (upd H p (.lst vs)):=by
 obtain⟨hl,e⟩:=Zlj e
 cases e
 refine⟨by rw[<- Prd.len r]; exact hl,fun p hp=>?_⟩
 refine q _ _ (ι++[p]) (Le.fresh1 hp _) (hr.new hp ⟨vs,Zaq,Prd.mono (Le.fresh1 hp _) r⟩) (Za0.mpr ⟨p,rfl,?_⟩)
 rw[<- hr.len]; simp
nonrec def Zdi (f:AF):EF:=fun σ H=>(f σ H).bind fun p=>mkT p.1 p.2
nonrec def Zd3 (f:AF):EF:=fun σ H=>(f σ H).bind fun p=>mkL p.1 p.2
theorem Zc0 {f:AF} {x1} (h:PAf X es f):PEf X (.Tuple es x1 pos) (Zdi f):=by
 refine PEi (Ycw h) fun σ H Q zz=>?_
 obtain⟨ι,σd,Hd,d,Hd',s,hr,e,q⟩:=zz
 obtain⟨⟨x,H1⟩,e1,e⟩:=Zo e
 exact⟨ι,σd,Hd,x,H1,s,hr,e1,fun vs H' ι' l h r=>Zii h r e fun v2 H2 ι2 l2 h2 r2=>q v2 H2 ι2 (l.trans l2) h2 r2⟩
theorem Zon {f:AF} (h:PAf X es f):PEf X (.List es pos) (Zd3 f):=by
 refine PEi (Ydb h) fun σ H Q zz=>?_
 obtain⟨ι,σd,Hd,d,Hd',s,hr,e,q⟩:=zz
 obtain⟨⟨x,H1⟩,e1,e⟩:=Zo e
 exact⟨ι,σd,Hd,x,H1,s,hr,e1,fun vs H' ι' l h r=>Zga h r e fun v2 H2 ι2 l2 h2 r2=>q v2 H2 ι2 (l.trans l2) h2 r2⟩
nonrec def eCB (g:FF) (f:AF):EF:=fun σ H=>(f σ H).bind fun p=>g p.1 p.2
theorem Yda {f:AF} {g:FF} {σ:L2.St} {H:Hp} {Q:VK} {K:Xb} (h:rdE K (eCB g f) σ H Q):tCB (rdC K g) (rdA K f) σ H Q:=by
 obtain⟨ι,σd,Hd,d,Hd',s,hr,e,q⟩:=h
 obtain⟨⟨x,H1⟩,e1,e⟩:=Zo e
 exact⟨ι,σd,Hd,x,H1,s,hr,e1,fun vs H' ι' l h r=>⟨ι',x,H1,d,Hd',h,r,e,fun v2 H2 ι2 l2 h2 r2=>q v2 H2 ι2 (l.trans l2) h2 r2⟩⟩
theorem Zca {x:Str} {id:String} {g:FF} {f:AF} {p:Pos} (hc:Zih X (.builtin id) g) (hg:Gl X x) (hm:X.mg x=none) (hv:Vq x=some (.builtin id)) (ha:PAf X (e::es) f) (hn:x ≠ "__name__" := by decide) (hdb:(x==("__debug__" : Str))=false:=by decide)
  (he:Vg (e::es) X.env=(false,eval e X.env)::Vg es X.env:=by exact Zb3 rfl) (hpl:(Ual pos (Vg es X.env)).any (·.1)=false:=by exact Zc2 rfl):PEf X (.Call (.Name x p) (e::es) [] pos) (eCB g f) :=
 PEi (Zw3 hc hg hm hv ha hn hdb he hpl) fun _ _ _ h=>Yda h
theorem Zhb {x:Str} {T:String} {g:FF} {f:AF} {p:Pos} (hc:Zih X (.type T) g) (hg:Gl X x) (hm:X.mg x=none) (hv:Vq x=some (.type T)) (ha:PAf X (e::es) f) (hn:x ≠ "__name__" := by decide) (hdb:(x==("__debug__" : Str))=false:=by decide)
  (he:Vg (e::es) X.env=(false,eval e X.env)::Vg es X.env:=by exact Zb3 rfl) (hpl:(Ual pos (Vg es X.env)).any (·.1)=false:=by exact Zc2 rfl):PEf X (.Call (.Name x p) (e::es) [] pos) (eCB g f) :=
 PEi (Zsm hc hg hm hv ha hn hdb he hpl) fun _ _ _ h=>Yda h
nonrec def spF (K:Xb) (n:Nat) (F:FF):Sp:=fun vs H Q _=>∃ ι ds Hd d Hd',ds.length=n/\HRep K H ι Hd/\Vj (Rep K H ι) ds vs/\F ds Hd=some (d,Hd')/\QE K H ι d Hd' Q
nonrec def Zal (n:Nat) (F:FF) (f:AF):EF:=fun σ H=>(f σ H).bind fun p=>if p.1.length=n then F p.1 p.2 else none
theorem Zvq {k n:Nat} {f:Ve} {fd:Uaq} {ps:List Str} {x:Str} {p:Pos} {F:FF} {fa:AF} (G:FnOk X.prog X.w X.K X.mg X.base CX0 k f fd ps (spF X.K n F)) (hr:Room k X.A) (hg:Gl X x) (hm:X.mg x=some (.ref f)) (hk:Wcd X.K (.ref f)=true)
  (hb:Znx X.K fd ps []) (ha:PAf X (e::es) fa) (hdb:(x==("__debug__" : Str))=false:=by decide) (he:Vg (e::es) X.env=(false,eval e X.env)::Vg es X.env:=by exact Zb3 rfl) (hpl:(Ual pos (Vg es X.env)).any (·.1)=false:=by exact Zc2 rfl) :
  PEf X (.Call (.Name x p) (e::es) [] pos) (Zal n F fa):=by
 refine PEi (Yae (E:=E0) G hr hg hm hk hb .nil Yb7 ha hdb he hpl) fun σ H Q zz=>?_
 obtain⟨ι,σd,Hd,d,Hd',s,hr,e,q⟩:=zz
 obtain⟨⟨x,H1⟩,e1,e⟩:=Zo e
 refine⟨ι,σd,Hd,x,H1,s,hr,e1,fun vs H' ι' l h r=>?_⟩
 dsimp only at e
 split at e
 ·rename_i hl
  exact⟨ι',x,H1,d,Hd',hl,h,by simpa using r,e,fun v2 H2 ι2 l2 h2 r2=>q v2 H2 ι2 (l.trans l2) h2 r2⟩
 ·cases e
nonrec def Znz:D->HD->Bool
 | .ref n,H=>match H[n]? with
  | some (.lst _)=>true
  | _=>false
 | _,_=>false
theorem Zwc {K:Xb} {H:Hp} {ι:List Ve} {Hd:HD} {d:D} {v:V} (hr:HRep K H ι Hd) (r:Rep K H ι d v) (e:Znz d Hd=true):tyV K "list" v H:=by
 cases d with
 | ref n =>
  obtain⟨ad,rfl,h⟩:=Za0.mp r
  simp only[Znz] at e
  split at e
  ·rename_i xs ho
   obtain⟨vs,h1,p⟩:=hr.obj n ad _ h ho
   exact .inl ⟨rfl,vs,SqL.of h1⟩
  ·cases e
 | _=>simp[Znz] at e
nonrec def eLM (g:D->List D->HD->Option (D×HD)) (fo:EF) (f:AF):EF:=fun σ H=>(fo σ H).bind fun o=>if Znz o.1 o.2=true then (f σ o.2).bind fun p=>g o.1 p.1 p.2 else none
theorem Zir {o:Vv} {name:Str} {apos cpos:Pos} {id:String} {g:D->List D->HD->Option (D×HD)} {fo:EF} {f:AF} (slot:Slot "list" name id) (hty:typeOf (.builtin id)=pure (.type "method_descriptor")) (hm:MtF X id g) (ho:PEf X o fo) (ha:PAf X (e::es) f)
  (hbase:Udq o name X.env (eval o X.env)=eval o X.env:=by rfl)
  (hfew:((Ual cpos (Vg (e::es) X.env)).all (fun x => !x.1)&&(Ucw cpos (Ubh [] X.env)).all (fun x=>x.1.isSome)
   && decide ((e::es).length+([]:List Ubz).length+(if ([]:List Ubz).isEmpty then 0 else 1)<30))=true:=by exact Zp4 rfl (by decide))
  (hline:(apos.endLine==cpos.line)=true:=by rfl) (hs:Vg (e::es) X.env=(false,eval e X.env)::Vg es X.env:=by exact Zb3 rfl) (hplain:(Ual cpos (Vg es X.env)).any (·.1)=false:=by exact Zc2 rfl) :
  PEf X (.Call (.Attribute o name apos) (e::es) [] cpos) (eLM g fo f):=by
 refine PEi (pe_bm PySem.F.plainAttrs_list slot hty hm ho ha hbase hfew hline hs hplain) fun σ H Q zz=>?_
 obtain⟨ι,σd,Hd,d,Hd',s,hr,e,q⟩:=zz
 obtain⟨⟨x,H1⟩,e1,e⟩:=Zo e
 dsimp only at e
 split at e
 ·rename_i hl
  obtain⟨⟨y,H2⟩,e2,e⟩:=Zo e
  exact⟨ι,σd,Hd,x,H1,s,hr,e1,fun v1 H1' ι1 l1 h1 r1=>⟨Zwc h1 r1 hl,ι1,σd,H1,y,H2,s.mono l1,h1,e2,fun vs H2' ι2 l2 h2 r2 =>
   ⟨ι2,x,y,H2,d,Hd',h2,r1.mono l2,r2,e,fun v H' ι' l h r=>q v H' ι' ((l1.trans l2).trans l) h r⟩⟩⟩
 ·cases e
nonrec def Zak:SF:=fun σ H=>some (.nx,σ,H)
nonrec def Zag (f g:SF):SF:=fun σ H=>(f σ H).bind fun r=>match r.1 with
 | .nx=>g r.2.1 r.2.2
 | _=>some r
theorem Za9:Znr X [] Zak:=by
 refine PSsi Yak fun E σ H zz=>?_
 obtain⟨ι,σd,Hd,fl,σd',Hd',s,hr,e,q⟩:=zz
 cases e
 exact q σ H ι Le.refl hr s
theorem Zaj {f g:SF} (h1:PSf X st f) (h2:Znr X sts g):Znr X (st::sts) (Zag f g):=by
 refine PSsi (Zw8 h1 h2) fun E σ H zz=>?_
 obtain⟨ι,σd,Hd,fl,σd',Hd',s,hr,e,q⟩:=zz
 obtain⟨⟨f1,σ1,H1⟩,e1,e⟩:=Zo e
 refine⟨ι,σd,Hd,f1,σ1,H1,s,hr,e1,fun σ' H' ι' l h ss=>?_⟩
 cases f1 with
 | nx=>exact⟨ι',σ1,H1,fl,σd',Hd',ss,h,e,fun σ2 H2 ι2 l2 h2 s2=>q σ2 H2 ι2 (l.trans l2) h2 s2⟩
 | bk=>cases e; exact q σ' H' ι' l h ss
 | ct=>cases e; exact q σ' H' ι' l h ss
 | rt d=>cases e; exact q σ' H' ι' l h ss
nonrec def Zbl (f:EF):SF:=fun σ H=>(f σ H).map fun p=>(.rt p.1,σ,p.2)
theorem Zbo {f:EF} (he:PEf X e f):PSf X (.Return (some e) pos) (Zbl f):=by
 refine PSi (Ycu he) fun E σ H zz=>?_
 obtain⟨ι,σd,Hd,fl,σd',Hd',s,hr,e,q⟩:=zz
 obtain⟨⟨x,H1⟩,e1,e⟩:=Zm e
 cases e
 exact⟨ι,σd,Hd,x,H1,s,hr,e1,fun v H' ι' l h r=>q σ H' ι' l h (s.mono l) v r⟩
nonrec def Zz9:SF:=fun σ H=>some (.rt .non,σ,H)
theorem Zvl:PSf X (.Return none pos) Zz9:=by
 refine PSi Zzt fun E σ H zz=>?_
 obtain⟨ι,σd,Hd,fl,σd',Hd',s,hr,e,q⟩:=zz
 cases e
 exact q σ H ι Le.refl hr s .non (by simp)
nonrec def Zcj (f:EF):SF:=fun σ H=>(f σ H).map fun p=>(.nx,σ,p.2)
theorem Zes {f:EF} (he:PEf X e f) (hs:Ucl e none pos.line X.env=pure false:=by rfl):PSf X (.Expr e pos) (Zcj f):=by
 refine PSi (Zyt he hs) fun E σ H zz=>?_
 obtain⟨ι,σd,Hd,fl,σd',Hd',s,hr,e,q⟩:=zz
 obtain⟨⟨x,H1⟩,e1,e⟩:=Zm e
 cases e
 exact⟨ι,σd,Hd,x,H1,s,hr,e1,fun v H' ι' l h r=>q σ H' ι' l h (s.mono l)⟩
nonrec def sIf (t:TF) (f g:SF):SF:=fun σ H=>(t σ H).bind fun p=>if p.1=true then f σ p.2 else g σ p.2
theorem Zgf {t:TF} {f g:SF} {as bs:List Uae} (hc:PTf X c t) (ha:Znr X as f) (hb:Znr X bs g):PSf X (.If c as bs pos) (sIf t f g):=by
 refine PSi (ps_if hc ha hb) fun E σ H zz=>?_
 obtain⟨ι,σd,Hd,fl,σd',Hd',s,hr,e,q⟩:=zz
 obtain⟨⟨x,H1⟩,e1,e⟩:=Zo e
 refine⟨ι,σd,Hd,x,H1,s,hr,e1,fun H' ι' l h=>?_⟩
 cases x with
 | true =>
  rw[if_pos rfl]
  exact⟨ι',σd,H1,fl,σd',Hd',s.mono l,h,by simpa using e,fun σ2 H2 ι2 l2 h2 s2=>q σ2 H2 ι2 (l.trans l2) h2 s2⟩
 | false =>
  rw[if_neg (by simp)]
  exact⟨ι',σd,H1,fl,σd',Hd',s.mono l,h,by simpa using e,fun σ2 H2 ι2 l2 h2 s2=>q σ2 H2 ι2 (l.trans l2) h2 s2⟩
nonrec def Zbg (i:Nat) (f:EF):SF:=fun σ H=>(f σ H).map fun p=>(.nx,σ.set i (some p.1),p.2)
theorem Za8 {i:Nat} {x:Str} {f:EF} {pos':Pos} (hN:X.N.Nodup) (hi:X.N[i]? = some x) (hx:Loc X.env.scope x) (he:PEf X e f) (hs:Ucl e (some (.Name x pos')) pos.line X.env=pure false:=by rfl) (hf:X.fn x=true\/X.env.scope.names.lookup x=some .local:=by first | exact .inl rfl | exact .inr rfl | assumption) :
  PSf X (.Assign [.Name x pos'] e pos) (Zbg i f):=by
 refine PSi (Ya3 hN hi hx he hs hf) fun E σ H zz=>?_
 obtain⟨ι,σd,Hd,fl,σd',Hd',s,hr,e,q⟩:=zz
 obtain⟨⟨x,H1⟩,e1,e⟩:=Zm e
 cases e
 exact⟨ι,σd,Hd,x,H1,s,hr,e1,fun v H' ι' l h r=>q _ H' ι' l h ((s.mono l).set r i)⟩
nonrec def gNm (i:Nat):GF:=fun d σ H=>some (σ.set i (some d),H)
theorem Zbz {i:Nat} {x:Str} (hN:X.N.Nodup) (hi:X.N[i]? = some x) (hx:Loc X.env.scope x) (hf:X.fn x=true\/X.env.scope.names.lookup x=some .local:=by first | exact .inl rfl | exact .inr rfl | assumption):PGf X (.Name x pos) (gNm i):=by
 refine PGi (Zlb hN hi hx hf) fun v σ H Q zz=>?_
 obtain⟨ι,σd,Hd,d,σd',Hd',s,hr,r,e,q⟩:=zz
 cases e
 exact q _ H ι Le.refl hr (s.set r i)
nonrec abbrev Zym:=D->D->D->HD->Option HD
nonrec def rdSet (K:Xb) (g:Zym):TSet:=fun o i v H Q=>∃ ι od id vd Hd Hd',HRep K H ι Hd/\Rep K H ι od o/\Rep K H ι id i/\Rep K H ι vd v/\g od id vd Hd=some Hd'/\∀ H' ι',Le K H ι H' ι'->HRep K H' ι' Hd'->Q H'
def Zy3 (X:Cx) (g:Zym):Prop:=PSet X (rdSet X.K g)
nonrec def gSb (fo fi:EF) (g:Zym):GF:=fun d σ H=>(fo σ H).bind fun o=>(fi σ o.2).bind fun i=>(g o.1 i.1 d i.2).map fun H'=>(σ,H')
theorem Zkl {o i:Vv} {fo fi:EF} {g:Zym} (ho:PEf X o fo) (hi:PEf X i fi) (hs:Zy3 X g)
  (ha:∀ v,Udd (.Subscript o i pos) X.env v=(do
   let ov<-Udi [v] (eval o X.env)
   let iv<-Udi [v,ov] (eval i X.env)
   standAt pos
   Udi [v,ov,iv] (setItem ov iv v)
   release [v,ov,iv] []):=by intro _; rfl):PGf X (.Subscript o i pos) (gSb fo fi g):=by
 refine PGi (Ycg ho hi hs ha) fun v σ H Q zz=>?_
 obtain⟨ι,σd,Hd,d,σd',Hd',s,hr,r,e,q⟩:=zz
 obtain⟨⟨x,H1⟩,e1,e⟩:=Zo e
 obtain⟨⟨y,H2⟩,e2,e⟩:=Zo e
 obtain⟨H3,e3,e⟩:=Zm e
 obtain⟨rfl,rfl⟩:=Wbe.inj e
 exact⟨ι,σd,Hd,x,H1,s,hr,e1,fun v1 H1' ι1 l1 h1 r1=>⟨ι1,σd,H1,y,H2,s.mono l1,h1,e2,fun v2 H2' ι2 l2 h2 r2 =>
  ⟨ι2,x,y,d,H2,H3,h2,r1.mono l2,r2,r.mono (l1.trans l2),e3,fun H' ι' l h=>q σ H' ι' ((l1.trans l2).trans l) h (s.mono ((l1.trans l2).trans l))⟩⟩⟩
nonrec abbrev GFs:=List D->SD->HD->Option (SD×HD)
nonrec def rdGs (K:Xb) (g:GFs):TGs:=fun vs σ H Q=>∃ ι σd Hd ds σd' Hd',SRep K H ι σ σd/\HRep K H ι Hd/\Vj (Rep K H ι) ds vs/\g ds σd Hd=some (σd',Hd') /\
 ∀ σ' H' ι',Le K H ι H' ι'->HRep K H' ι' Hd'->SRep K H' ι' σ' σd'->Q σ' H'
def PGsf (X:Cx) (ts:List Vv) (g:GFs):Prop:=PGs X ts (rdGs X.K g)
nonrec def gNl:GFs:=fun ds σ H=>match ds with
 | []=>some (σ,H)
 | _=>none
nonrec def gCn (g:GF) (h:GFs):GFs:=fun ds σ H=>match ds with
 | d::r=>(g d σ H).bind fun p=>h r p.1 p.2
 | []=>none
theorem PGsi {ts:List Vv} {t t':TGs} (h:PGs X ts t) (i:∀ v σ H Q,t' v σ H Q->t v σ H Q):PGs X ts t':=fun pins s σ H v u Q I r q=>h pins s σ H v u Q I r (i v σ H Q q)
theorem Zpc:PGsf X [] gNl:=by
 refine PGsi Ztd fun vs σ H Q zz=>?_
 obtain⟨ι,σd,Hd,ds,σd',Hd',s,hr,r,e,q⟩:=zz
 cases r with
 | nil=>cases e; exact⟨rfl,q σ H ι Le.refl hr s⟩
 | cons _ _=>cases e
theorem Zgr {g:GF} {h:GFs} (h1:PGf X e g) (h2:PGsf X es h) (hs:(Uao (e::es) X.env).map (·.2)=Udd e X.env::(Uao es X.env).map (·.2):=by rfl):PGsf X (e::es) (gCn g h):=by
 refine PGsi (Zkz h1 h2 hs) fun vs σ H Q zz=>?_
 obtain⟨ι,σd,Hd,ds,σd',Hd',s,hr,r,e,q⟩:=zz
 cases r with
 | nil=>cases e
 | cons r rr =>
  obtain⟨⟨σ1,H1⟩,e1,e⟩:=Zo e
  exact⟨_,_,rfl,ι,σd,Hd,_,σ1,H1,s,hr,r,e1,fun σ' H' ι' l h ss=>⟨ι',σ1,H1,_,σd',Hd',ss,h,Prd.mono l rr,e,fun σ2 H2 ι2 l2 h2 s2=>q σ2 H2 ι2 (l.trans l2) h2 s2⟩⟩
nonrec def gTp (n:Nat) (g:GFs):GF:=fun d σ H=>match d with
 | .tup ds=>if ds.length=n then g ds σ H else none
 | _=>none
theorem Zsi {k n:Nat} {g:GFs} (hc:X.calm=true) (h:PGsf X es g) (hn:(Uao es X.env).length=n:=by rfl) (hst:(Uao es X.env).findIdx? (·.1)=none:=by rfl):PGf X (.Tuple es k pos) (gTp n g):=by
 refine PGi (Zxn hc h hn hst) fun v σ H Q zz=>?_
 obtain⟨ι,σd,Hd,d,σd',Hd',s,hr,r,e,q⟩:=zz
 cases d with
 | tup ds =>
  obtain⟨a,vs,rfl,h1,p⟩:=Zbc.mp r
  simp only[gTp] at e
  split at e
  ·rename_i hl
   exact⟨a,vs,rfl,h1,by rw[<- Prd.len p]; exact hl,ι,σd,Hd,ds,σd',Hd',s,hr,p,e,q⟩
  ·cases e
 | _=>simp[gTp] at e
nonrec def Zvj (f:EF) (g:GF):SF:=fun σ H=>(f σ H).bind fun p=>(g p.1 σ p.2).map fun q=>(.nx,q.1,q.2)
theorem Zi6 {tg:Vv} {f:EF} {g:GF} (he:PEf X e f) (hg:PGf X tg g) (hs:swapsWithSole [tg] e pos.line X.env=pure false:=by rfl) (hw:swappedStores [tg] e X.env=pure none:=by rfl)
  (h1:(Uao [tg] X.env).map (·.2)=[Udd tg X.env]:=by rfl):PSf X (.Assign [tg] e pos) (Zvj f g):=by
 refine PSi (Yci he hg hs hw h1) fun E σ H zz=>?_
 obtain⟨ι,σd,Hd,fl,σd',Hd',s,hr,e,q⟩:=zz
 obtain⟨⟨x,H1⟩,e1,e⟩:=Zo e
 obtain⟨⟨σ2,H2⟩,e2,e⟩:=Zm e
 cases e
 exact⟨ι,σd,Hd,x,H1,s,hr,e1,fun v H' ι' l h r=>⟨ι',σd,H1,x,σ2,H2,s.mono l,h,r,e2,fun σ3 H3 ι3 l3 h3 s3=>q σ3 H3 ι3 (l.trans l3) h3 s3⟩⟩
nonrec abbrev Zgc:=List (Nat×DO)
def Zb7 (own:Zgc) (H:HD):Prop:=∀ p∈own,H[p.1]? = some p.2
nonrec abbrev ItF:=SD->HD->Option ((List D×Zgc)×HD)
structure ItRep (K:Xb) (J:It) (xs:List D) (own:Zgc) (H0:Hp) (ι0:List Ve):Prop where
 go:∀ i H ι Hd,Le K H0 ι0 H ι->HRep K H ι Hd->Zb7 own Hd->i<xs.length->J.go i H
 yld:∀ i H ι Hd d x H',Le K H0 ι0 H ι->HRep K H ι Hd->Zb7 own Hd->xs[i]? = some d->J.yld i H x H'->∃ ι',Le K H ι H' ι'/\HRep K H' ι' Hd/\Rep K H' ι' d x
 stop:∀ i H ι Hd,Le K H0 ι0 H ι->HRep K H ι Hd->Zb7 own Hd->xs.length<=i->J.stop i H
nonrec def rdI (K:Xb) (f:ItF):TI:=fun σ H R=>∃ ι σd Hd xs own Hd',SRep K H ι σ σd/\HRep K H ι Hd/\f σd Hd=some ((xs,own),Hd')/\∀ J H' ι',Le K H ι H' ι'->HRep K H' ι' Hd'->ItRep K J xs own H' ι'->R J H'
def PIf (X:Cx) (tg iter:Vv) (f:ItF):Prop:=PI X tg iter (rdI X.K f)
theorem PIi {tg iter:Vv} {t t':TI} (h:PI X tg iter t) (i:∀ σ H R,t' σ H R->t σ H R):PI X tg iter t':=fun pins s σ H R I q=>h pins s σ H R I (i σ H R q)
open Classical in
nonrec def Zfr (own:Zgc) (g:GF) (body:SF):List D->SF
 | [],σ,H=>if Zb7 own H then some (.nx,σ,H) else none
 | x::r,σ,H=>if Zb7 own H then (g x σ H).bind fun p=>(body p.1 p.2).bind fun q=>match q.1 with
   | .nx=>Zfr own g body r q.2.1 q.2.2
   | .ct=>Zfr own g body r q.2.1 q.2.2
   | .bk=>some (.nx,q.2.1,q.2.2)
   | .rt d=>some (.rt d,q.2.1,q.2.2)
  else none
nonrec def Zew (it:ItF) (g:GF) (body:SF):SF:=fun σ H=>(it σ H).bind fun p=>Zfr p.1.2 g body p.1.1 σ p.2
theorem Zos {tg iter:Vv} {body:List Uae} {f:ItF} {g:GF} {b:SF} (hp:Ued (Vm X.prog X.w) X.A X.env X.xe) (hc:X.calm=true) (hi:PIf X tg iter f) (hg:PGf X tg g) (hb:Znr X body b)
  (hs:∀ x,Vx iter X.env x=pure x:=by intro _; rfl):PSf X (.For tg iter body [] pos) (Zew f g b):=by
 refine PSi (Ybp hp hc hi hg hb hs) fun E σ H zz=>?_
 obtain⟨ι,σd,Hd,fl,σf,Hf,s,hr,e,q⟩:=zz
 obtain⟨⟨⟨xs,own⟩,H1⟩,e1,e⟩:=Zo e
 refine⟨ι,σd,Hd,xs,own,H1,s,hr,e1,fun J H0 ι0 l0 h0 it=>?_⟩
 refine⟨fun i m σ H=>m=xs.length - i/\i<=xs.length/\∃ ι σd Hd,Le X.K H0 ι0 H ι/\SRep X.K H ι σ σd/\HRep X.K H ι Hd/\Zfr own g b (xs.drop i) σd Hd=some (fl,σf,Hf),
  ⟨xs.length,by simp,Wbb _,ι0,σd,H1,Le.refl,s.mono l0,h0,by simpa using e⟩,?_⟩
 rintro i m σ2 H2 ⟨rfl,hi,ι2,σd2,Hd2,l2,s2,h2,e2⟩
 by_cases hlt:i<xs.length
 ·have ed:xs.drop i=xs[i]::xs.drop (i+1):=Wau hlt
  rw[ed,Zfr] at e2
  split at e2
  ·rename_i ok
   obtain⟨⟨σ3,H3⟩,e3,e2⟩:=Zo e2
   obtain⟨⟨f4,σ4,H4⟩,e4,e2⟩:=Zo e2
   refine .inr ⟨it.go i H2 ι2 Hd2 l2 h2 ok hlt,fun σ' H'=>(xs.length - (i+1)=xs.length - (i+1)/\i+1<=xs.length/\∃ ι σd Hd,Le X.K H0 ι0 H' ι/\SRep X.K H' ι σ' σd/\HRep X.K H' ι Hd/\Zfr own g b (xs.drop (i+1)) σd Hd=some (fl,σf,Hf)),
    fun σ' H' p=>⟨_,by omega,p⟩,fun x H' y=>?_⟩
   obtain⟨ι3,l3,h3,r3⟩:=it.yld i H2 ι2 Hd2 xs[i] x H' l2 h2 ok (by simp[hlt]) y
   refine⟨ι3,σd2,Hd2,xs[i],σ3,H3,s2.mono l3,h3,r3,e3,fun σ5 H5 ι5 l5 h5 s5=>?_⟩
   refine⟨ι5,σ3,H3,f4,σ4,H4,s5,h5,e4,fun σ6 H6 ι6 l6 h6 s6=>?_⟩
   have L:Le X.K H0 ι0 H6 ι6:=((l2.trans l3).trans l5).trans l6
   cases f4 with
   | nx=>exact⟨rfl,hlt,ι6,σ4,H4,L,s6,h6,e2⟩
   | ct=>exact⟨rfl,hlt,ι6,σ4,H4,L,s6,h6,e2⟩
   | bk=>cases e2; exact q σ6 H6 ι6 (l0.trans L) h6 s6
   | rt d=>cases e2; exact q σ6 H6 ι6 (l0.trans L) h6 s6
  ·cases e2
 ·have hi':i=xs.length:=by omega
  rw[Wda (by omega),Zfr] at e2
  split at e2
  ·rename_i ok
   have e3:(FD.nx,σd2,Hd2)=(fl,σf,Hf):=Xy.inj e2
   obtain⟨rfl,e4⟩:=Wbe.inj e3
   obtain⟨rfl,rfl⟩:=Wbe.inj e4
   exact .inl ⟨it.stop i H2 ι2 _ l2 h2 ok (by omega),q σ2 H2 ι2 (l0.trans l2) h2 s2⟩
  ·cases e2
end
nonrec def Zbd (n N:Nat) (b:SF):FF:=fun ds H=>if ds.length=n then (b (ds.map some++Xs (N - ds.length) none) H).bind fun r=>match r.1 with
  | .rt d=>some (d,r.2.2)
  | .nx=>some (.non,r.2.2)
  | _=>none
 else none
section
variable {P:Vh} {w:Vu} {K:Xb} {mg:Str->Option Vb} {base:Vz}
theorem fn_f {x qual:Str} {st:Uae} {f:Ve} {fd:Uaq} {N ps:List Str} {k:Nat} {b:SF} (F:Fun K x qual st f fd) (S:FnScope N ps (Zad st))
  (hb:∀ (cdv:Vb) (A:Vt) (outer:List Env) (s:Vd) (H:Hp) (E:XK),Room k (A.deeper (Ubc qual (Zad st) s.heap.objs.size f cdv)) ->
   Znr (Zln CX0 P w K mg base N qual (Zad st) f cdv A outer s H E).nox (Za7 st) b):FnOk P w K mg base CX0 (k+1) f fd ps (spF K ps.length (Zbd ps.length N.length b)):=by
 refine F.ok S (fun vs H Q E h=>?_) (fun cdv A outer s H vs Q E hr h=>?_)
 ·obtain⟨ι,ds,Hd,d,Hd',hl,_,r,_⟩:=h
  rw[<- Prd.len r]; exact hl
 ·obtain⟨ι,ds,Hd,d,Hd',hl,hh,r,e,q⟩:=h
  refine⟨_,hb cdv A outer s H E hr,?_⟩
  unfold Zbd at e
  rw[if_pos hl] at e
  obtain⟨⟨fl,σ1,H1⟩,e1,e⟩:=Zo e
  refine⟨ι,_,Hd,fl,σ1,H1,?_,hh,e1,fun σ' H' ι' l h ss=>?_⟩
  ·refine⟨by simp[L2.start,Prd.len r],fun i d0 h0=>?_⟩
   unfold L2.start
   by_cases hi:i<ds.length
   ·rw[Xg (by simpa using hi),Xp] at h0
    cases ed:ds[i]? with
    | none=>rw[ed] at h0; cases h0
    | some d1 =>
     rw[ed] at h0
     cases h0
     obtain⟨v,hv,rv⟩:=Prd.get r ed
     refine⟨v,?_,rv⟩
     rw[Xg (by rw[Xk,<- Prd.len r]; exact hi),Xp,hv]
     rfl
   ·rw[Xo (by simpa using hi),Wbp] at h0
    split at h0<;>cases h0
  ·cases fl with
   | rt d1=>cases e; exact fun v rv=>q v H' ι' l h rv
   | nx=>cases e; exact q .non H' ι' l h (by simp)
   | bk=>cases e
   | ct=>cases e
end
nonrec def Zhu (env:Env):List (Str×Ubb)->List (Str×Ve)->List (Str×Ve)
 | [],cs=>cs
 | (n,k)::r,cs=>Zhu env r (if k=.free then (match env.cells.lookup n with | some a=>(n,a)::cs | none=>cs) else cs)
theorem Zha (env:Env) (scope:Ubm) (h:∀ y∈scope.names,y.2=.free->(env.cells.lookup y.1).isSome=true):closureFor scope env=pure (Zhu env scope.names []):=by
 have key:∀ (ns:List (Str×Ubb)) (cs:List (Str×Ve)),(∀ y∈ns,y.2=.free->(env.cells.lookup y.1).isSome=true) ->
   (forIn ns cs fun(x:Str×Ubb) cs=>match x with
    | (name,kind)=>if (kind==.free)=true then (do let a<-cellOf env name; pure (Tah ((name,a)::cs))) else pure (Tah cs):Sem (List (Str×Ve)))=pure (Zhu env ns cs):=by
  intro ns
  induction ns with
  | nil=>intro cs _; rfl
  | cons x r ih =>
   intro cs hh
   obtain⟨n,k⟩:=x
   have hr:=ih
   rw[Wem]
   by_cases hk:k=.free
   ·subst hk
    have q:=hh (n,.free) (by simp) rfl
    cases e:env.cells.lookup n with
    | none=>rw[e] at q; cases q
    | some a =>
     have e2:cellOf env n=pure a:=by unfold cellOf; rw[e]
     simp only[beq_self_eq_true,if_true,e2,pure_bind,Zhu,e]
     exact ih _ fun y hy=>hh y (Wak _ hy)
   ·have hb:(k==Ue)=false:=by simpa using hk
    simp only[hb,Wan,if_false,pure_bind,Zhu,hk]
    exact ih _ fun y hy=>hh y (Wak _ hy)
 have e:closureFor scope env=((forIn scope.names [] fun(x:Str×Ubb) cs=>match x with
    | (name,kind)=>if (kind==.free)=true then (do let a<-cellOf env name; pure (Tah ((name,a)::cs))) else pure (Tah cs):Sem (List (Str×Ve))) >>= pure):=rfl
 rw[e,bind_pure]
 exact key scope.names [] h
theorem Zgx (env:Env):∀ (ns:List (Str×Ubb)) (cs:List (Str×Ve)),(∀ x c,cs.lookup x=some c->env.cells.lookup x=some c)->∀ x c,(Zhu env ns cs).lookup x=some c->env.cells.lookup x=some c
 | [],cs,h=>h
 | (n,k)::r,cs,h=>by
  unfold Zhu
  refine Zgx env r _ ?_
  split
  ·cases e:env.cells.lookup n with
   | none=>exact h
   | some a =>
    intro x c q
    dsimp only at q
    rw[Wai] at q
    split at q
    ·rename_i hb
     have hb':x=n:=by simpa using hb
     subst hb'; cases q; exact e
    ·exact h x c q
  ·exact h
theorem Zk3 (env:Env):∀ (ns:List (Str×Ubb)) (cs:List (Str×Ve)) (x:Str),((cs.lookup x).isSome=true\/((x,Ue)∈ns/\(env.cells.lookup x).isSome=true))->((Zhu env ns cs).lookup x).isSome=true
 | [],cs,x,h=>by
  rcases h with h | ⟨h,_⟩
  ·exact h
  ·simp at h
 | (n,k)::r,cs,x,h=>by
  unfold Zhu
  refine Zk3 env r _ x ?_
  by_cases hk:k=.free
  ·rw[if_pos hk]
   cases e:env.cells.lookup n with
   | none =>
    rcases h with h | ⟨h,h2⟩
    ·exact .inl h
    ·rcases Xh.mp h with h | h
     ·cases h; rw[e] at h2; cases h2
     ·exact .inr ⟨h,h2⟩
   | some a =>
    dsimp only
    rw[Wai]
    by_cases hx:x=n
    ·subst hx; simp
    ·have:(x==n)=false:=by simpa using hx
     rw[this]
     rcases h with h | ⟨h,h2⟩
     ·exact .inl h
     ·rcases Xh.mp h with h | h
      ·cases h; exact absurd rfl hx
      ·exact .inr ⟨h,h2⟩
  ·rw[if_neg hk]
   rcases h with h | ⟨h,h2⟩
   ·exact .inl h
   ·rcases Xh.mp h with h | h
    ·cases h; exact absurd rfl hk
    ·exact .inr ⟨h,h2⟩
theorem Zf7 {env:Env}:∀ {names:List (Str×Ubb)} {x:Str},names.lookup x=some .free ->
  ((names.map fun(n,k)=>if (k==Ue&&env.scope.kind==.function&&env.kindOf n==some .cell) then (n,Taa) else (n,k)).lookup x=some .cell \/
   (names.map fun(n,k)=>if (k==Ue&&env.scope.kind==.function&&env.kindOf n==some .cell) then (n,Taa) else (n,k)).lookup x=some .free)
 | [],_,h=>by simp at h
 | (n,k)::r,x,h=>by
  have ih:=@Zf7 env r x
  show Wey x ((if (k==Ue&&env.scope.kind==.function&&env.kindOf n==some .cell)=true then (n,Taa) else (n,k))::_)=_\/Wey x ((if (k==Ue&&env.scope.kind==.function&&env.kindOf n==some .cell)=true then (n,Taa) else (n,k))::_)=_
  cases hx:x==n with
  | true =>
   simp only[Wai,hx] at h
   cases h
   by_cases hc:(Ue==Ue&&env.scope.kind==.function&&env.kindOf n==some .cell)=true
   ·rw[if_pos hc]; simp only[Wai,hx]; simp
   ·rw[if_neg hc]; simp only[Wai,hx]; simp
  | false =>
   simp only[Wai,hx] at h
   by_cases hc:(k==Ue&&env.scope.kind==.function&&env.kindOf n==some .cell)=true
   ·rw[if_pos hc]; simp only[Wai,hx]; exact ih h
   ·rw[if_neg hc]; simp only[Wai,hx]; exact ih h
theorem Ze9 {env:Env}:∀ {names:List (Str×Ubb)} {x:Str},(∀ y∈names,y.2≠.cell) ->
  ((names.map fun(n,k)=>if (k==Ue&&env.scope.kind==.function&&env.kindOf n==some .cell) then (n,Taa) else (n,k)).lookup x=some .cell \/
   (names.map fun(n,k)=>if (k==Ue&&env.scope.kind==.function&&env.kindOf n==some .cell) then (n,Taa) else (n,k)).lookup x=some .free)->(x,Ue)∈names
 | [],_,_,h=>by simp at h
 | (n,k)::r,x,hn,h=>by
  have ih:=@Ze9 env r x (fun y hy=>hn y (Wak _ hy))
  have h:Wey x ((if (k==Ue&&env.scope.kind==.function&&env.kindOf n==some .cell)=true then (n,Taa) else (n,k))::_)=_\/Wey x ((if (k==Ue&&env.scope.kind==.function&&env.kindOf n==some .cell)=true then (n,Taa) else (n,k))::_)=_:=h
  cases hx:x==n with
  | true =>
   have hx':x=n:=by simpa using hx
   subst hx'
   by_cases hc:(k==Ue&&env.scope.kind==.function&&env.kindOf x==some .cell)=true
   ·have hk:k=.free:=by
     rw[Wam,Wam] at hc
     simpa using hc.1.1
    subst hk; simp
   ·rw[if_neg hc] at h
    simp only[Wai,hx] at h
    rcases h with h | h
    ·cases h; exact absurd rfl (hn (x,.cell) (by simp))
    ·cases h; simp
  | false =>
   refine Wak _ (ih ?_)
   by_cases hc:(k==Ue&&env.scope.kind==.function&&env.kindOf n==some .cell)=true
   ·rw[if_pos hc] at h; simp only[Wai,hx] at h; exact h
   ·rw[if_neg hc] at h; simp only[Wai,hx] at h; exact h
nonrec def blk (X:Cx) (scope:Ubm) (N:List Str) (cl:List (Str×Ve)) (C:Ve) (s:Vd) (H:Hp) (fp:List Ve) (pn:List (Ve×Obj)):Cx where
 prog:=X.prog
 w:=X.w
 K:=X.K
 mg:=X.mg
 base:=X.base
 A:=X.A
 N:=N
 s₀:=s
 H₀:=H
 env:=Ubs scope cl C X.env
 outer:=X.stack
 stack:=X.stack
 ex:=fp
 fn:=fun _=>false
 calm:=X.calm
 pn:=pn
 xe:=fun _ _=>False
structure BlkOk (X:Cx) (scope:Ubm) (x:Str) (cn:List Str) (ci:List Nat):Prop where
 kind:scope.kind=.function
 nocell:∀ y∈scope.names,y.2≠.cell
 names:∀ y∈scope.names,y.2=.local->scope.names.lookup y.1=some .local
 tgt:scope.names.lookup x=some .local
 free:∀ y∈scope.names,y.2=.free->(X.env.cells.lookup y.1).isSome=true
 nd:(x::cn).Nodup
 len:ci.length=cn.length
 cap:∀ (j:Nat) (y:Str),cn[j]? = some y->∃ i,ci[j]? = some i/\X.N[i]? = some y/\scope.names.lookup y=some .free/\(X.env.kindOf y=some .cell\/X.env.kindOf y=some .free)
nonrec def Zjm (ci:List Nat) (σ:L2.St):L2.St:=ci.map fun i=>(σ[i]?).join
section
variable {X:Cx} {pins:List (Ve×Obj)} {σ:L2.St} {H:Hp} {s:Vd} {scope:Ubm} {x:Str} {cn:List Str} {ci:List Nat} {fp:List Ve}
theorem Yac {h₁:Vz} {tk:Nat} {o₁:Obj} (I:Inv X pins σ H s) (B:BlkOk X scope x cn ci) (hf:∀ b∈fp,Zko X pins H b) (hlt:∀ b∈fp,b<s.heap.objs.size)
  (hns:h₁.Ns s.heap.objs.size (fun _=>none)) (hsb:Xz s.heap.objs.size (s.heap.push o₁) h₁) :
  Inv (blk X scope (x::cn) (Zhu X.env scope.names []) s.heap.objs.size s H fp (X.pn++pins)) [] (none::Zjm ci σ) H { s with heap:=h₁,toks:=tk }:=by
 have old:∀ b o,s.heap.get? b=some o->h₁.get? b=some o:=fun b o e=>hsb.extBut b o (Xi (Xf e)) (Xa _ e)
 have sub:=Zgx X.env scope.names [] (by intro x c h; simp at h)
 have has:∀ y,(y,Ue)∈scope.names->∃ c,(Zhu X.env scope.names []).lookup y=some c:=fun y hy =>
  Waj.mp (Zk3 X.env scope.names [] y (.inr ⟨hy,B.free _ hy rfl⟩))
 refine⟨⟨I.ok.mod,B.kind,I.ok.glob,I.ok.blt,Xd _,fun y z c h1 h2=>I.ok.inj y z c (sub y c h1) (sub z c h2),fun y hy=>has y (Ze9 B.nocell hy),fun y c hy=>absurd hy (by show ¬ (false=true); simp),I.ok.hd,I.ok.frames,.inl rfl,
   fun b hb=>⟨Xi (hlt b hb),fun y c e=>(hf b hb).2.2.2.2.1 y c (sub y c e)⟩,I.bs,Waf I.ok.bsz I.sz,fun b o e hb=>?_,fun b hb z=>?_,I.stack,I.stkFree⟩,
  rfl,I.bare,Un.kept old,⟨_,hns,fun i y v h1 h2 h3=>?_⟩,fun y c e=>?_,I.hok.fresh (Xd _),fun y c e=>(I.freeC y c (sub y c e)).imp id fun z=>⟨rfl,z.2⟩,fun p hp=>?_,I.hok.kept old,?_⟩
 ·rcases(hf b hb).2.2.2.1 with z | z
  ·exact I.ok.noex b o e z
  ·exact absurd (Xj (Xf e) (Waf I.ok.bsz z)) (Wbg _)
 ·exact(Xh.mp (I.stkSub b z)).elim (hf b hb).2.1 (hf b hb).2.2.1
 ·cases i with
  | zero=>simp at h2
  | succ j =>
   have h1':cn[j]? = some y:=by simpa [blk] using h1
   have h2':(Zjm ci σ)[j]? = some (some v):=by simpa using h2
   obtain⟨i,e1,e2,e3,e4⟩:=B.cap j y h1'
   have e5:σ[i]? = some (some v):=by
    unfold Zjm at h2'
    rw[Xp,e1] at h2'
    simp at h2'
    cases e:σ[i]? with
    | none=>rw[e] at h2'; cases h2'
    | some o=>rw[e] at h2'; simp at h2'; rw[h2']
   obtain⟨m,hn,hl⟩:=I.loc
   have hv:Vis X.env.scope y:=by
    rcases e4 with e4 | e4
    ·exact .inr (.inl e4)
    ·exact .inr (.inr e4)
   obtain⟨u,r,l⟩:=hl i y v e2 e5 hv
   refine⟨u,r,.inr ⟨Zf7 e3,?_⟩⟩
   obtain⟨c,ec⟩:=has y (Uj e3)
   refine⟨c,ec,?_⟩
   rcases l with ⟨l,_⟩ | ⟨_,c',ec',hc⟩
   ·rcases e4 with e4 | e4<;>rw[e4] at l<;>cases l
   ·rw[sub y c ec] at ec'
    cases ec'
    obtain⟨ob,q1,q2⟩:=hc
    exact⟨ob,old _ _ q1,q2⟩
 ·obtain⟨v,ob,q1,q2⟩:=I.cell y c (sub y c e)
  exact⟨v,ob,old _ _ q1,q2⟩
 ·have hp':p∈X.pn++pins:=by simpa [blk] using hp
  obtain⟨q1,q2,q3,q4,q5⟩:=I.pin p hp'
  refine⟨old _ _ q1,q2,Xi (Xf q1),fun z=>?_,q5⟩
  exact(Xh.mp (I.stkSub p.1 z)).elim q3 q4
 ·simp[blk,Zjm,B.len]
def PTs (X:Cx) (ifs:List Vv) (t:TT):Prop :=
 ∀ (pins:List (Ve×Obj)) (s:Vd) (σ:L2.St) (H:Hp) (Q:Bool->Hp->Prop),Inv X pins σ H s->t σ H Q ->
  Vf (Vm X.prog X.w) X.A (forIn ifs true fun c r=>if r=true then do let ok<-isTrue c X.env (eval c X.env); pure (Tah ok) else pure (Tah r)) (TP X pins σ Q) X.xe s
theorem Yai:PTs X [] (fun _ H Q=>Q true H):=fun _ _ _ H _ I h=>wpAny_tests_nil ⟨H,I,h⟩
theorem Zyj {c:Vv} {t:TT} (h:PT X c t):PTs X [c] t:=fun pins s σ H Q I q=>wpAny_tests_one (h pins s σ H Q I q)
def LcW (J:It) (ci:List Nat) (tt:TT) (te:TE) (σ:L2.St) (Q:VK) (H1:Hp):Prop:=∀ p,H1 p=none->∃ W:Nat->Nat->List V->Hp->Prop,(∃ m,W 0 m [] (upd H1 p (.lst [])))/\∀ i m ys H,W i m ys H ->
 H p=some (.lst ys)/\((J.stop i H/\Q (.ref p) H)\/(J.go i H/\∀ v H',J.yld i H v H'->tt (some v::Zjm ci σ) H' fun b H2 =>
  if b=true then te (some v::Zjm ci σ) H2 fun y H3=>H3 p=some (.lst ys)/\ys.length<sizeLine/\∃ m',m'<m/\W (i+1) m' (ys++[y]) (upd H3 p (.lst (ys++[y])))
  else ∃ m',m'<m/\W (i+1) m' ys H2))
structure Gone (X:Cx) (pins:List (Ve×Obj)) (H:Hp) (s:Vd) (C:Ve):Prop where
 ns:∃ m,s.heap.Ns C m
 free:H C=none
 nl:C≠X.env.locals
 up:X.s₀.heap.objs.size<=C
 nc:∀ x c,X.env.cells.lookup x=some c->c≠C
 np:∀ p∈X.pn++pins,p.1≠C
theorem Gone.go {σ:L2.St} {h':Vz} {C:Ve} (g:Gone X pins H s C) (I:Inv X pins σ H s) (hs:Xz C s.heap h'):Inv X pins σ H { s with heap:=h' } :=
 I.turned (t':=s.toks) (fun b o hb e=>hs.extBut b o hb e) g.free g.nl (.inr g.up) g.nc g.np
theorem Zqd {elt iter:Vv} {px pos:Pos} {ifs:List Vv} {tt:TT} {te:TE} {Q:VK} {E:Vb->Vd->Prop} {RR:Vb->Ve->Result->Vd->Prop} {it:Ve} {tn:Nat->Vz->Prop} {J:It}
  (I:Inv X pins σ H s) (hc:X.calm=true) (B:BlkOk X scope x cn ci) (T:Turn X.prog X.w X.K (.Name x px) J fp it tn) (st:tn 0 s.heap) (hf:∀ b∈fp,Zko X pins H b)
  (ht:∀ cl C s H fp pn,PTs (blk X scope (x::cn) cl C s H fp pn) ifs tt) (he:∀ cl C s H fp pn,PE (blk X scope (x::cn) cl C s H fp pn) elt te)
  (hw:LcW J ci tt te σ Q H) (hRR:∀ p C H' s',Inv X pins σ H' s'->Gone X pins H' s' C->Q (.ref p) H'->RR (.ref p) C (.ok .next) s') :
  Vf (Vm X.prog X.w) X.A (Uen []) (fun acc s₃=>Vf (Vm X.prog X.w) X.A (newFunctionEnv scope X.env.globals (Zhu X.env scope.names []) [] X.env.qual none .none (some X.env)) (fun cenv s₄ =>
   Ucn (Vm X.prog X.w) X.A (.compStart (.ListComp elt [⟨.Name x px,iter,ifs,0⟩] scope pos) 0 (.ref it) acc { cenv with scope:=relabel scope X.env }) (RR acc cenv.locals) s₄) E s₃) E s:=by
 have hp0:H s.heap.objs.size=none:=I.hok.fresh (Xd _)
 obtain⟨W,⟨m0,w0⟩,turn⟩:=hw _ hp0
 refine Vs (Ucy B.nocell (by intro y hy; simp at hy) (fun h₁ hns₁ hsb₁=>?_) B.kind)
 dsimp only at hns₁ hsb₁ ⊢
 have I3:Inv X pins σ (upd H s.heap.objs.size (.lst [])) { s with heap:=s.heap.push { cls:=.type "list",dict:=none,data:=.seq ([]:List Vb).toArray } } :=
  I.laid (t':=s.toks) (fun b u e=>Xa _ e) (Xd _) ⟨Wbb _,[],0,.nil,Xe _ rfl⟩
 generalize hH3:s.heap.push { cls:=.type "list",dict:=none,data:=.seq ([]:List Vb).toArray }=hp3 at hns₁ hsb₁ I3 ⊢
 have flt:∀ b∈fp,b<s.heap.objs.size:=fun b hb=>by
  obtain⟨o,e,_⟩:=T.obj 0 _ st b hb
  exact Xf e
 have sz3:hp3.objs.size=s.heap.objs.size+1:=by rw[<- hH3,Wao]
 have f3:∀ b∈fp,Zko X pins (upd H s.heap.objs.size (.lst [])) b:=fun b hb=>⟨by rw[Zah (Xi (flt b hb))]; exact(hf b hb).1,(hf b hb).2⟩
 have old3:∀ b o,s.heap.get? b=some o->hp3.get? b=some o:=fun b o e=>by rw[<- hH3]; exact Xa _ e
 have I4:=Yac (s:={ s with heap:=hp3 }) (tk:=s.toks+([]:List (Str×Vb)).length) I3 B f3 (fun b hb=>by show b<hp3.objs.size; rw[sz3]; exact Wbx (flt b hb)) (by simpa using hns₁) hsb₁
 have old4:∀ b o,hp3.get? b=some o->h₁.get? b=some o:=fun b o e=>hsb₁.extBut b o (Xi (Xf e)) (Xa _ e)
 generalize hX':blk X scope (x::cn) (Zhu X.env scope.names []) hp3.objs.size { s with heap:=hp3 } (upd H s.heap.objs.size (.lst [])) fp (X.pn++pins)=X' at I4
 have ePr:X'.prog=X.prog:=by rw[<- hX']; rfl
 have eW:X'.w=X.w:=by rw[<- hX']; rfl
 have eK:X'.K=X.K:=by rw[<- hX']; rfl
 have eA:X'.A=X.A:=by rw[<- hX']; rfl
 have eEnv:X'.env=Ubs scope (Zhu X.env scope.names []) hp3.objs.size X.env:=by rw[<- hX']; rfl
 have eEx:X'.ex=fp:=by rw[<- hX']; rfl
 have ht':PTs X' ifs tt:=by rw[<- hX']; exact ht _ _ _ _ _ _
 have he':PE X' elt te:=by rw[<- hX']; exact he _ _ _ _ _ _
 have eXe:X'.xe=fun _ _=>False:=by rw[<- hX']; rfl
 have hg':PG X' (.Name x px) (Zk2 0):=by
  rw[<- hX']
  exact Zlb (X:=blk X scope (x::cn) _ _ _ _ _ _) B.nd rfl (.inl (Uac B.tgt)) (.inr (Uac B.tgt))
 -- the iterator's objects, seen from the block
 have stat:∀ {H':Hp},(∀ b∈fp,H' b=none)->∀ b∈fp,Zko X' [] H' b:=fun {H'} hn b hb=>by
  rw[<- hX']
  refine⟨hn b hb,(by show b≠hp3.objs.size; rw[sz3]; exact Xi (Wbx (flt b hb))),fun z=>(Xh.mp (I3.stkSub b z)).elim (hf b hb).2.1 (hf b hb).2.2.1,.inl hb,fun y c e=>?_,fun p hp=>?_⟩
  ·exact(hf b hb).2.2.2.2.1 y c (Zgx X.env scope.names [] (by intro x c h; simp at h) y c e)
  ·exact(hf b hb).2.2.2.2.2 p (by simpa [blk] using hp)
 have back:∀ {σ':L2.St} {H':Hp} {s':Vd},Inv X' [] σ' H' s'->Inv X pins σ H' s'/\Gone X pins H' s' hp3.objs.size:=fun {σ' H' s'} I5=>by
  have u:Un (frs X.stack) fp (upd H s.heap.objs.size (.lst [])) H' hp3 s'.heap:=by
   have:=I5.base
   rw[<- hX'] at this
   exact this
  have hok:HOk X.prog X.w H' s'.heap:=by have:=I5.hok; rw[ePr,eW] at this; exact this
  have ho:s'.os=s.os:=by have:=I5.os; rw[<- hX'] at this; exact this
  refine⟨I3.call' ho u hok I5.bare fun b hb=>⟨(hf b hb).2.2.2.1,(hf b hb).2.1,(hf b hb).2.2.2.2.1,(hf b hb).2.2.2.2.2⟩,?_,?_,?_,?_,fun y c e z=>?_,fun p hp z=>?_⟩
  ·obtain⟨m,hn,_⟩:=I5.loc
   rw[eEnv] at hn
   exact⟨m,hn⟩
  ·have:=I5.free
   rw[eEnv] at this
   exact this
  ·exact Wbr (I3.lt)
  ·exact I3.sz
  ·obtain⟨v,q⟩:=I3.cell y c e
   exact absurd (Xj q.lt (by rw[z]; exact Xd _)) (Wbg _)
  ·have:=Xf (I3.pin p hp).1
   rw[z] at this
   exact Wbg _ this
 have loop:Ucn (Vm X.prog X.w) X.A (.compLoop (.ListComp elt [⟨.Name x px,iter,ifs,0⟩] scope pos) 0 (.ref it) (.ref s.heap.objs.size) (Ubs scope (Zhu X.env scope.names []) hp3.objs.size X.env))
   (RR (.ref s.heap.objs.size) hp3.objs.size) { s with heap:=h₁,toks:=s.toks+([]:List (Str×Vb)).length }:=by
  refine codeAny_loop rfl (fun n s'=>∃ i o ys H',Inv X' [] (o::Zjm ci σ) H' s'/\tn i s'.heap/\(∀ b∈fp,H' b=none)/\W i n ys H') (fun n s' hI=>?_) m0
   ⟨0,none,[],_,I4,T.keep _ _ _ st (fun b hb o e=>old4 b o (old3 b o e)),fun b hb=>(f3 b hb).1,w0⟩
  obtain⟨i,o,ys,H',I5,st5,fr5,w5⟩:=hI
  show Vf _ X.A ((compTurn (.ListComp elt [⟨.Name x px,iter,ifs,0⟩] scope pos) 0 (.ref it) (.ref s.heap.objs.size) (Ubs scope (Zhu X.env scope.names []) hp3.objs.size X.env)).onRaise (fun x=>do noteFrame x (Ubs scope (Zhu X.env scope.names []) hp3.objs.size X.env); theTreesLotGoes x)) _ _ s'
  refine wpAny_noted ?_
  rw[compTurn_list,<- eEnv,<- ePr,<- eW,<- eA]
  refine Uan (E:=fun _ _=>False) ?_ (fun _ _ q=>q) (fun _ _ z=>z.elim)
  obtain⟨hpl,wt⟩:=turn i n ys H' w5
  refine Va (Ubn (Va ?_))
  rcases wt with ⟨stop,q⟩ | ⟨go,step⟩
  ·have z:=T.done X' ePr eW eK (by rw[<- hX']; exact hc) i [] s' _ H' (fun _ _=>False) I5 (stat fr5) st5 stop
   rw[<- ePr,<- eW] at z
   refine thn z fun r s6 zz=>?_
   obtain⟨hr,I6⟩:=zz
   subst hr
   obtain⟨J1,g1⟩:=back I6
   exact Vc (hRR _ _ H' s6 J1 g1 q)
  ·have z:=T.item X' ePr eW eK (by rw[<- hX']; exact hc) i [] s' _ H' (fun _ _=>False) I5 (stat fr5) st5 go
   rw[<- ePr,<- eW] at z
   refine thn z fun r s6 zz=>?_
   obtain⟨u,hr,h6⟩:=zz
   subst hr
   refine Va (thn h6 fun _ s7 zz=>?_)
   obtain⟨v,H7,I7,r7,y7,st7,fr7⟩:=zz
   have I7':=I7.pinned (stat fr7) (T.obj _ _ st7)
   rw[<- eXe]
   refine Va (thn (hg' _ s7 _ H7 v u _ I7' r7 (show Zk2 0 v (o::Zjm ci σ) H7 (fun σ8 H8=>σ8=some v::Zjm ci σ/\H8=H7) from⟨rfl,rfl⟩)) fun _ s8 zz=>?_)
   obtain⟨σ8,H8,I8,e8,e8'⟩:=zz
   subst e8 e8'
   refine Va (thn (ht' _ s8 _ _ _ I8 (step v _ y7)) fun b s9 zz=>?_)
   obtain⟨H9,I9,q9⟩:=zz
   have tnK:∀ {σ':L2.St} {H':Hp} {s':Vd},Inv X' (([]:List (Ve×Obj))++Zka fp s7.heap) σ' H' s'->tn (i+1) s'.heap/\∀ b∈fp,H' b=none:=fun {σ' H' s'} I' =>
    ⟨T.keep _ _ _ st7 fun b hb o e=>(I'.pin (b,o) (Xr _ (Xr _ (Zdk hb e)))).1,fun b hb=>by
     obtain⟨ob,e,d⟩:=T.obj _ _ st7 b hb
     exact(I'.pin (b,ob) (Xr _ (Xr _ (Zdk hb e)))).2.1⟩
   cases b with
   | false =>
    obtain⟨m',hm,w9⟩:=q9
    obtain⟨t9,f9⟩:=tnK I9
    exact Vc ⟨rfl,m',hm,i+1,_,ys,H9,I9.unpinned,t9,f9,w9⟩
   | true =>
    refine Va (Va (thn (he' _ s9 _ _ _ I9 q9) fun yv s10 zz=>?_))
    obtain⟨y,H10,I10,r10,hp10,hz10,m',hm,w10⟩:=zz
    refine Va (thn (Zi1 (X:=X') _ s10 _ H10 (.ref s.heap.objs.size) [y] (.ref s.heap.objs.size) [yv] (fun _ H11=>H11=upd H10 s.heap.objs.size (.lst (ys++[y]))) I10 rfl (.cons r10 .nil) ⟨_,ys,y,rfl,rfl,hp10,hz10,rfl⟩) fun _ s11 zz=>?_)
    obtain⟨_,H11,I11,_,e11⟩:=zz
    subst e11
    obtain⟨t11,f11⟩:=tnK I11
    exact Vc (Vc ⟨rfl,m',hm,i+1,_,ys++[y],_,I11.unpinned,t11,f11,w10⟩)
 exact Uch loop (T.self _ 0 _ _ _ (T.keep _ _ _ st (fun b hb o e=>old4 b o (old3 b o e))) loop)
nonrec def tLC (wi:TI) (ci:List Nat) (tt:TT) (te:TE):TE:=fun σ H Q=>wi σ H fun J H1=>LcW J ci tt te σ Q H1
theorem pe_lc {elt iter:Vv} {px pos:Pos} {ifs:List Vv} {wi:TI} {tt:TT} {te:TE} (hc:X.calm=true) (B:BlkOk X scope x cn ci) (hi:PI X (.Name x px) iter wi)
  (ht:∀ cl C s H fp pn,PTs (blk X scope (x::cn) cl C s H fp pn) ifs tt) (he:∀ cl C s H fp pn,PE (blk X scope (x::cn) cl C s H fp pn) elt te)
  (hs:∀ x,Vx iter X.env x=pure x:=by rintro _; rfl):PE X (.ListComp elt [⟨.Name x px,iter,ifs,0⟩] scope pos) (tLC wi ci tt te):=by
 intro pins s σ H Q I h
 rw[eval_ListComp]
 refine Uay (use:=none) rfl hs (Zha X.env scope B.free) B.kind B.names ?_
 refine thn (hi pins s σ H _ I h) fun v s1 h1=>thn h1 fun itv s2 h2=>?_
 obtain⟨it,fp,tn,J,H2,e,I2,T,st2,f2,w2⟩:=h2
 subst e
 refine Zqd (RR:=fun acc C=>compPost (Vm X.prog X.w) X.A X.xe none (EP X pins σ Q) acc C) I2 hc B T st2 f2 ht he w2 fun p C H' s' I' g q=>?_
 obtain⟨m,hn⟩:=g.ns
 exact⟨m,hn,fun h' hs'=>⟨.ref p,H',g.go I' hs',rfl,q⟩⟩
theorem Zv8 {elt iter:Vv} {px py pos spos:Pos} {ifs:List Vv} {wi:TI} {tt:TT} {te:TE} {i:Nat} {y:Str} (hc:X.calm=true) (B:BlkOk X scope x cn ci) (hi:PI X (.Name x px) iter wi)
  (ht:∀ cl C s H fp pn,PTs (blk X scope (x::cn) cl C s H fp pn) ifs tt) (he:∀ cl C s H fp pn,PE (blk X scope (x::cn) cl C s H fp pn) elt te)
  (hN:X.N.Nodup) (hiN:X.N[i]? = some y) (hy:X.env.scope.names.lookup y=some .local)
  (hsw:Ucl (.ListComp elt [⟨.Name x px,iter,ifs,0⟩] scope pos) (some (.Name y py)) spos.line X.env=pure true:=by rfl)
  (hs:∀ x,Vx iter X.env x=pure x:=by rintro _; rfl):PS X (.Assign [.Name y py] (.ListComp elt [⟨.Name x px,iter,ifs,0⟩] scope pos) spos) (tAsg (tLC wi ci tt te) (Zk2 i)):=by
 intro pins s σ H E I h
 rw[exec_Assign_Name_used _ _ _ _ hsw]
 refine Va (Ubn (Va ?_))
 show Vf _ X.A (do let _<-comprehension (.ListComp elt [⟨.Name x px,iter,ifs,0⟩] scope pos) scope X.env _ (Uen []) false (eval iter X.env) (some (Udd (.Name y py) X.env))) _ _ s
 refine Va (Uan (Uay (use:=some (Udd (.Name y py) X.env)) (Q:=fun _ s'=>SP X pins E .next s') rfl hs (Zha X.env scope B.free) B.kind B.names ?_) (fun _ s' hq=>Vc (Vc hq)) fun _ _ e=>e)
 refine thn (hi pins s σ H _ I h) fun v s1 h1=>thn h1 fun itv s2 h2=>?_
 obtain⟨it,fp,tn,J,H2,e,I2,T,st2,f2,w2⟩:=h2
 subst e
 refine Zqd (RR:=fun acc C=>compPost (Vm X.prog X.w) X.A X.xe (some (Udd (.Name y py) X.env)) (fun _ s'=>SP X pins E .next s') acc C) I2 hc B T st2 f2 ht he w2 fun p C H' s' I' g q=>?_
 show Vf _ X.A (Udd (.Name y py) X.env (.ref p)) _ _ _
 have hk:X.env.kindOf y=some .local:=hy
 refine wpAny_assign_Name (Zij I' hN hiN (.inl hy) (v:=.ref p) (u:=.ref p) rfl (fun s'' I'' ch=>?_) (.inr hy))
 obtain⟨m,hn⟩:=g.ns
 obtain⟨a,hsb,ha⟩:=ch
 have haC:C≠a:=by
  rcases ha with ha | ha
  ·rw[ha]; exact g.nl
  ·exact Uo (g.nc y a ha)
 have hn2:s''.heap.Ns C m:=hn.sameBut hsb haC
 exact⟨m,hn2,fun h' hs'=>⟨_,H',Gone.go ⟨⟨m,hn2⟩,g.free,g.nl,g.up,g.nc,g.np⟩ I'' hs',q⟩⟩
end
nonrec def Zuo (ci:List Nat) (σd:SD):SD:=ci.map fun i=>(σd[i]?).join
open Classical in
nonrec def Zee (own:Zgc) (c0:SD) (tt:TF) (te:EF):List D->HD->Option (List D×HD)
 | [],H=>if Zb7 own H then some ([],H) else none
 | x::r,H=>if Zb7 own H then (tt (some x::c0) H).bind fun t=>if t.1=true then (te (some x::c0) t.2).bind fun e=>(Zee own c0 tt te r e.2).map fun q=>(e.1::q.1,q.2) else Zee own c0 tt te r t.2 else none
nonrec def eLC (it:ItF) (ci:List Nat) (tt:TF) (te:EF):EF:=fun σ H=>(it σ H).bind fun p=>(Zee p.1.2 (Zuo ci σ) tt te p.1.1 p.2).bind fun q=>mkL q.1 q.2
nonrec def Zxp:TF:=fun _ H=>some (true,H)
def Yc2 (X:Cx) (ifs:List Vv) (t:TF):Prop:=PTs X ifs (rdT X.K t)
section
variable {X:Cx} {scope:Ubm} {x:Str} {cn:List Str} {ci:List Nat}
theorem Zh2:Yc2 X [] Zxp:=by
 rintro pins s σ H Q I ⟨ι,σd,Hd,b,Hd',sr,hr,e,q⟩
 cases e
 exact Yai pins s σ H Q I (q H ι Le.refl hr)
theorem Zv2 {c:Vv} {t:TF} (h:PTf X c t):Yc2 X [c] t:=Zyj h
theorem SRep.cap {K:Xb} {H:Hp} {ι:List Ve} {σ:L2.St} {σd:SD} {d:D} {v:V} (s:SRep K H ι σ σd) (r:Rep K H ι d v):SRep K H ι (some v::Zjm ci σ) (some d::Zuo ci σd):=by
 refine⟨by simp[Zjm,Zuo],fun i e h=>?_⟩
 cases i with
 | zero=>simp at h; subst h; exact⟨v,rfl,r⟩
 | succ j =>
  simp only[Wca,Zjm,Zuo,Xp] at h ⊢
  cases ej:ci[j]? with
  | none=>rw[ej] at h; simp at h
  | some i =>
   rw[ej] at h
   simp only[Wen,Xy.injEq] at h ⊢
   cases es:σd[i]? with
   | none=>rw[es] at h; simp at h
   | some o =>
    rw[es] at h
    simp at h
    subst h
    obtain⟨u,h1,h2⟩:=s.var i e es
    exact⟨u,by rw[h1]; rfl,h2⟩
theorem Ybr {K:Xb} {it:ItF} {tt:TF} {te:EF} {σ:L2.St} {H:Hp} {Q:VK} (h:rdE K (eLC it ci tt te) σ H Q):tLC (rdI K it) ci (rdT K tt) (rdE K te) σ H Q:=by
 obtain⟨ι,σd,Hd,d,Hd',s,hr,e,q⟩:=h
 obtain⟨⟨⟨xs,own⟩,H1⟩,e1,e⟩:=Zo e
 obtain⟨⟨ds,H2⟩,e2,e⟩:=Zo e
 obtain⟨hz,e⟩:=Zlj e
 cases e
 dsimp only at e2 hz
 refine⟨ι,σd,Hd,xs,own,H1,s,hr,e1,fun J H0 ι0 l0 h0 itr p hp=>?_⟩
 have s0:=s.mono l0
 refine⟨fun i m ys H=>m=xs.length - i/\i<=xs.length/\H p=some (.lst ys)/\∃ ι Hd done rest,Le K H0 ι0 H ι/\p∉ι/\HRep K H ι Hd/\Vj (Rep K H ι) done ys/\Zee own (Zuo ci σd) tt te (xs.drop i) Hd=some (rest,H2)/\ds=done++rest,
  ⟨xs.length,by simp,Wbb _,Zaq,ι0,H1,[],ds,Le.fresh hp _,h0.fresh hp,h0.tup hp _,.nil,by simpa using e2,by simp⟩,?_⟩
 rintro i m ys H5 ⟨rfl,hi,hpl,ι5,Hd5,done,rest,l5,np5,h5,pd5,e5,eds⟩
 refine⟨hpl,?_⟩
 by_cases hlt:i<xs.length
 ·have ed:xs.drop i=xs[i]::xs.drop (i+1):=Wau hlt
  rw[ed,Zee] at e5
  split at e5
  ·rename_i ok
   obtain⟨⟨b6,H6⟩,e6,e5⟩:=Zo e5
   refine .inr ⟨itr.go i H5 ι5 Hd5 l5 h5 ok hlt,fun v H' y=>?_⟩
   obtain⟨ι6,l6,h6,r6⟩:=itr.yld i H5 ι5 Hd5 xs[i] v H' l5 h5 ok (by simp[hlt]) y
   obtain⟨hp6,np6⟩:=l6.frame p _ hpl np5
   have s6:=SRep.cap (ci:=ci) (s0.mono (l5.trans l6)) r6
   refine⟨ι6,_,Hd5,b6,H6,s6,h6,e6,fun H7 ι7 l7 h7=>?_⟩
   obtain⟨hp7,np7⟩:=l7.frame p _ hp6 np6
   have L7:=(l5.trans l6).trans l7
   cases b6 with
   | true =>
    rw[if_pos rfl]
    dsimp only at e5
    rw[if_pos rfl] at e5
    obtain⟨⟨d8,H8⟩,e8,e5⟩:=Zo e5
    obtain⟨⟨r9,H9⟩,e9,e5⟩:=Zm e5
    cases e5
    refine⟨ι7,_,H6,d8,H8,s6.mono l7,h7,e8,fun v8 H8' ι8 l8 h8 rr8=>?_⟩
    obtain⟨hp8,np8⟩:=l8.frame p _ hp7 np7
    have ly:ys.length<sizeLine:=by
     rw[<- Prd.len pd5]
     rw[eds] at hz
     simp at hz
     omega
    have w8:Lw K H8' ι8 (upd H8' p (.lst (ys++[v8]))) ι8:=Lw.side hp8 _
    refine⟨hp8,ly,xs.length - (i+1),by omega,rfl,hlt,Zaq,ι8,H8,done++[d8],r9,(L7.trans l8).side hp hp8 _,np8,h8.keep w8 (fun a ha=>Zah fun z=>by subst z; exact np8 ha),?_,e9,by rw[eds]; simp⟩
    exact Prd.append (Prd.monoW w8 (Prd.mono ((l6.trans l7).trans l8) pd5)) (.cons (Rep.monoW w8 rr8) .nil)
   | false =>
    rw[if_neg (by simp)]
    dsimp only at e5
    rw[if_neg (by simp)] at e5
    exact⟨xs.length - (i+1),by omega,rfl,hlt,hp7,ι7,H6,done,rest,L7,np7,h7,Prd.mono (l6.trans l7) pd5,e5,eds⟩
  ·cases e5
 ·rw[Wda (by omega),Zee] at e5
  split at e5
  ·rename_i ok
   have e6:(([]:List D),Hd5)=(rest,H2):=Xy.inj e5
   obtain⟨rfl,rfl⟩:=Wbe.inj e6
   refine .inl ⟨itr.stop i H5 ι5 _ l5 h5 ok (by omega),?_⟩
   have w5:Lw K H5 ι5 H5 (ι5++[p]):=⟨fun _ _ z=>z,fun _ _ z=>z,⟨[p],rfl⟩,fun _ _ _ z=>z⟩
   have L:=l0.trans l5
   simp at eds
   subst eds
   refine q _ H5 (ι5++[p]) ⟨L.toLw.trans w5,fun a o ha na=>?_⟩ (h5.add np5 ⟨ys,hpl,Prd.monoW w5 pd5⟩) (Za0.mpr ⟨p,rfl,by rw[<- h5.len]; simp⟩)
   obtain⟨q1,q2⟩:=L.frame a o ha na
   refine⟨q1,?_⟩
   have:a≠p:=fun z=>by
    subst z
    have:=(l0.frame a o ha na).1
    rw[hp] at this; cases this
   simp[q2,this]
  ·cases e5
theorem Zpd {elt iter:Vv} {px pos:Pos} {ifs:List Vv} {it:ItF} {tt:TF} {te:EF} (hc:X.calm=true) (B:BlkOk X scope x cn ci) (hi:PIf X (.Name x px) iter it)
  (ht:∀ cl C s H fp pn,Yc2 (blk X scope (x::cn) cl C s H fp pn) ifs tt) (he:∀ cl C s H fp pn,PEf (blk X scope (x::cn) cl C s H fp pn) elt te)
  (hs:∀ x,Vx iter X.env x=pure x:=by rintro _; rfl):PEf X (.ListComp elt [⟨.Name x px,iter,ifs,0⟩] scope pos) (eLC it ci tt te) :=
 PEi (pe_lc (tt:=rdT X.K tt) (te:=rdE X.K te) hc B hi ht he hs) fun _ _ _ h=>Ybr h
theorem Zdn {elt iter:Vv} {px py pos spos:Pos} {ifs:List Vv} {it:ItF} {tt:TF} {te:EF} {i:Nat} {y:Str} (hc:X.calm=true) (B:BlkOk X scope x cn ci) (hi:PIf X (.Name x px) iter it)
  (ht:∀ cl C s H fp pn,Yc2 (blk X scope (x::cn) cl C s H fp pn) ifs tt) (he:∀ cl C s H fp pn,PEf (blk X scope (x::cn) cl C s H fp pn) elt te)
  (hN:X.N.Nodup) (hiN:X.N[i]? = some y) (hy:X.env.scope.names.lookup y=some .local)
  (hsw:Ucl (.ListComp elt [⟨.Name x px,iter,ifs,0⟩] scope pos) (some (.Name y py)) spos.line X.env=pure true:=by rfl)
  (hs:∀ x,Vx iter X.env x=pure x:=by rintro _; rfl):PSf X (.Assign [.Name y py] (.ListComp elt [⟨.Name x px,iter,ifs,0⟩] scope pos) spos) (Zbg i (eLC it ci tt te)):=by
 refine PSi (Zv8 (tt:=rdT X.K tt) (te:=rdE X.K te) hc B hi ht he hN hiN hy hsw hs) fun E σ H zz=>?_
 obtain⟨ι,σd,Hd,fl,σd',Hd',s,hr,e,q⟩:=zz
 obtain⟨⟨x,H1⟩,e1,e⟩:=Zm e
 cases e
 exact Ybr ⟨ι,σd,Hd,x,H1,s,hr,e1,fun v H' ι' l h r=>q _ H' ι' l h ((s.mono l).set r i)⟩
end
theorem Zzr:fillsNumberSlot (.type "tuple") "mul" = pure false :=
 PySem.fillsNumberSlot_seq (id := "tuple.__mul__") (r:=some (.builtin "tuple.__rmul__")) Taj.lookup (by decide +kernel) F.slot_tuple_rmul.lookup (by decide +kernel)
theorem repT:seqRepeat? (.type "tuple")=pure (some (.builtin "tuple.__mul__")):=by
 unfold seqRepeat?
 rw[Tcm (T := "tuple") (name := "__mul__") (id := "tuple.__mul__") Taj.lookup (by decide +kernel),Tcm (T := "tuple") (name := "__rmul__") (id := "tuple.__rmul__") F.slot_tuple_rmul.lookup (by decide +kernel)]
 rfl
section
variable {dd:Option Ve} {sl:Array (Option Vb)}
theorem rmulT (a:Int) (t:Tok) (l:Ve) (items:Array Vb) (n:Nat) :
  Uek (Builtin.«int.__rmul__» ⟨[.int a t,.ref l],[]⟩) (fun _ R s=>s.heap.get? l=some { cls:=.type "tuple",dict:=dd,data:=.seq items n,slots:=sl }/\R (.ok (.ret Value.notImplemented)) s) :=
 .of_wp fun prog w A R s h=>by obtain⟨hp,g,d,tk,os⟩:=s; obtain⟨hl,h⟩:=h; wp_walk; exact⟨_,rfl,h⟩
theorem Zu5 (l:Ve) (items:Array Vb) (n:Nat) (x:Int) (u:Tok) (h1:(decide (x < -(2 ^ 63))||decide (x ≥ 2 ^ 63))=false) (h2:(items.isEmpty||x==1)=true) :
  Uek (Builtin.«tuple.__mul__» ⟨[.ref l,.int x u],[]⟩) (fun _ R s=>s.heap.get? l=some { cls:=.type "tuple",dict:=dd,data:=.seq items n,slots:=sl }/\R (.ok (.ret (.ref l))) s) :=
 .of_wp fun prog w A R s h=>by
  obtain⟨hp,g,d,tk,os⟩:=s; obtain⟨hl,h⟩:=h
  have f1:=Tbr
  wp_walk
  simp only[h1,Wan,if_false]
  wp_walk using Vo hl
  simp only[h2,if_true]
  wp_walk using Vo hl
  exact⟨_,rfl,h⟩
theorem Ztx (l:Ve) (items:Array Vb) (n:Nat) (x:Int) (u:Tok) (h1:(decide (x < -(2 ^ 63))||decide (x ≥ 2 ^ 63))=false) (h2:(items.isEmpty||x==1)=false) (h3:(decide (x<=0)||items.isEmpty)=true) :
  Uek (Builtin.«tuple.__mul__» ⟨[.ref l,.int x u],[]⟩) (fun _ R s=>s.heap.get? l=some { cls:=.type "tuple",dict:=dd,data:=.seq items n,slots:=sl }/\R (.ok (.ret (.ref s.heap.objs.size))) { s with heap:=s.heap.push { cls:=Tbn "tuple",data:=Data.seq #[] } }) :=
 .of_wp fun prog w A R s h=>by
  obtain⟨hp,g,d,tk,os⟩:=s; obtain⟨hl,h⟩:=h
  have f1:=Tbr
  wp_walk
  simp only[h1,Wan,if_false]
  wp_walk using Vo hl
  try simp only[h2,h3,Wan,if_false,if_true]
  try (wp_walk using Vo hl)
  exact⟨_,rfl,h⟩
theorem Zwe (l:Ve) (items:Array Vb) (n:Nat) (x:Int) (u:Tok) (h1:(decide (x < -(2 ^ 63))||decide (x ≥ 2 ^ 63))=false) (h2:(items.isEmpty||x==1)=false) (h3:(decide (x<=0)||items.isEmpty)=false) (h4:¬ (items.size*x:Int) > (2 ^ 63 - 1) / 8) (h5:Tbh (items.size*x)=false)
  (hs:(Wec (fun x1 x2=>x1++x2) #[] (Xs x.toNat items)).size<=sizeLine) :
  Uek (Builtin.«tuple.__mul__» ⟨[.ref l,.int x u],[]⟩) (fun _ R s=>s.heap.get? l=some { cls:=.type "tuple",dict:=dd,data:=.seq items n,slots:=sl }/\R (.ok (.ret (.ref s.heap.objs.size))) { s with heap:=s.heap.push { cls:=Tbn "tuple",data:=Data.seq (Wec (fun x1 x2=>x1++x2) #[] (Xs x.toNat items)) } }) :=
 .of_wp fun prog w A R s h=>by
  obtain⟨hp,g,d,tk,os⟩:=s; obtain⟨hl,h⟩:=h
  have f1:=Tbr
  wp_walk
  simp only[h1,Wan,if_false]
  wp_walk using Vo hl
  simp only[h2,h3,h5,Wan,if_false,if_neg h4]
  wp_walk using Vo hl
  exact⟨_,rfl,h⟩
end
theorem Zj4 (its:List Vb) (m:Nat):Wec (fun x1 x2=>x1++x2) #[] (Xs m its.toArray)=(Xs m its).flatten.toArray:=by
 have:=Zif its m []
 rw[Wct] at this
 exact this
section
variable {prog:Vh} {w:Vu} {A:Vt} {E:Vb->Vd->Prop} {s:Vd}
theorem Zyl {l:Ve} {its:List Vb} {k:Int} {t:Tok} {Q:Vb->Vd->Prop} (p:Uem s.heap l its.toArray) (h1 : -(2 ^ 63)<=k) (h2:k<2 ^ 63) (hz:its.length*k.toNat<=sizeLine)
  (qs:(its=[]\/k=1)->Q (.ref l) s) (qn:its≠[]->k≠1->Q (.ref s.heap.objs.size) { s with heap:=s.heap.push { cls:=.type "tuple",data:=.seq (Xs k.toNat its).flatten.toArray } }) :
  Vf (Vm prog w) A (Vy .Mult (.ref l) (.int k t)) Q E s:=by
 obtain⟨o,e,hc,n,hd⟩:=p
 obtain⟨c,dd,da,sl⟩:=o
 have hc':c=.type "tuple" := hc
 have hd':da=.seq its.toArray n:=hd
 subst hc' hd'
 have b1:(decide (k < -(2 ^ 63))||decide (k ≥ 2 ^ 63))=false:=by simp; omega
 refine Ubu (T := "tuple") (U := "int") (by decide) ⟨_,e,rfl⟩ (fun s'=>Ucv s' k t) Zzr F.fills_int_mul Taz repT F.slot_int_index.lookup
  (Ubo Taz (Ucv s k t) F.entry_int_rmul (Tcj _ _) (rmulT k t l its.toArray n) ⟨e,rfl,⟨_,e,rfl⟩,?_⟩)
 by_cases hs:its=[]\/k=1
 ·exact Ubo Taj ⟨_,e,rfl⟩ Tbo (Tbj _ _) (Zu5 l its.toArray n k t b1 (by rcases hs with h | h<;>simp[h])) ⟨e,qs hs⟩
 ·have hne:its≠[]:=fun h=>hs (.inl h)
  have hk:k≠1:=fun h=>hs (.inr h)
  have b2:(its.toArray.isEmpty||k==1)=false:=by cases its<;>simp_all
  have new:=qn hne hk
  by_cases h0:k<=0
  ·have z:k.toNat=0:=by omega
   rw[z] at new
   exact Ubo Taj ⟨_,e,rfl⟩ Tbo (Tbj _ _) (Ztx l its.toArray n k t b1 b2 (by simp[h0])) ⟨e,new⟩
  ·have sz:sizeLine=16777216:=Uy
   have hm:(its.toArray.size:Int)*k<=16777216:=by
    have e1:k=(k.toNat:Int):=by omega
    rw[Xm,e1,<- Int.natCast_mul]
    omega
   have b3:(decide (k<=0)||its.toArray.isEmpty)=false:=by cases its<;>simp_all
   refine Ubo Taj ⟨_,e,rfl⟩ Tbo (Tbj _ _) (Zwe l its.toArray n k t b1 b2 b3 (by omega) (by simp only[Tbh,decide_eq_false_iff_not,sz]; omega) ?_) ⟨e,?_⟩
   ·rw[Zj4,Xm,Zn6,Wfn]; exact hz
   ·rw[Zj4]; exact new
end
variable {X:Cx}
nonrec def rRepT (K:Xb):R2:=fun x y H Q=>∃ l k xs,x=.ref l/\y=.int k/\SqT K H l xs /\ -(2 ^ 63)<=k/\k<2 ^ 63/\xs.length*k.toNat<=sizeLine/\((xs=[]\/k=1)->Q (.ref l) H) /\
 (xs≠[]->k≠1->∀ p,H p=none->Q (.ref p) (upd H p (.tup (Xs k.toNat xs).flatten)))
theorem Zzd:OpR X (Vy .Mult) (rRepT X.K):=by
 intro pins s σ H x y v u Q I rx ry h
 obtain⟨l,k,xs,rfl,rfl,ha,h1,h2,hz,q1,q2⟩:=h
 cases rx
 obtain⟨t,rfl⟩:=ry
 obtain⟨its,r1,p1,_⟩:=I.tuple ha
 refine Zyl p1 h1 h2 (by rw[<- r1.length]; exact hz) (fun z=>⟨.ref l,H,I,rfl,q1 (z.imp r1.nil_iff.mp id)⟩) (fun z zk=>?_)
 refine⟨.ref s.heap.objs.size,_,I.laid (t':=s.toks) (o:=.tup (Xs k.toNat xs).flatten) (fun b ob q=>Xa _ q) (Xd _) ?_,rfl,q2 (fun w=>z (r1.nil_iff.mpr w)) zk _ (I.hok.fresh (Xd _))⟩
 exact⟨by rw[Zn6,Wfn]; exact hz,_,r1.rep k.toNat,Zk5.new _ _⟩
section
variable {X:Cx}
nonrec def iiD (C:Int->Int->Prop) [∀ i j,Decidable (C i j)] (g:Int->Int->D):F2:=fun x y H=>match x,y with
 | .int i,.int j=>if C i j then some (g i j,H) else none
 | _,_=>none
theorem Zpq {f:Vb->Vb->Sem Vb} {C:Int->Int->Prop} [∀ i j,Decidable (C i j)] {g:Int->Int->Int} (h:OpR X f (rI C fun i j=>.int (g i j))):OpF X f (iiD C fun i j=>.int (g i j)):=by
 refine OpRi h fun x y H Q zz=>?_
 obtain⟨ι,dx,dy,Hd,d,Hd',hr,r1,r2,e,q⟩:=zz
 cases dx<;>cases dy<;>simp only[iiD] at e<;>try cases e
 rename_i i j
 split at e
 ·rename_i hc
  cases e
  simp at r1 r2
  exact⟨i,j,r1,r2,hc,q _ H ι Le.refl hr (by simp)⟩
 ·cases e
def CT (_ _:Int):Prop:=True
instance:∀ i j,Decidable (CT i j):=fun _ _=>instDecidableTrue
theorem Yce {f:Vb->Vb->Sem Vb} {g:Int->Int->V} (h:OpR X f (rI0 g)):OpR X f (rI CT g):=OpRi h fun x y H Q ⟨i,j,e1,e2,_,q⟩=>⟨i,j,e1,e2,q⟩
theorem Zpy {f:Vb->Vb->Sem Vb} {g:Int->Int->Bool} (h:OpR X f (rI0 fun i j=>.bl (g i j))):OpF X f (iiD CT fun i j=>.bl (g i j)):=by
 refine OpRi h fun x y H Q zz=>?_
 obtain⟨ι,dx,dy,Hd,d,Hd',hr,r1,r2,e,q⟩:=zz
 cases dx<;>cases dy<;>simp only[iiD] at e<;>try cases e
 rename_i i j
 simp at r1 r2
 exact⟨i,j,r1,r2,q _ H ι Le.refl hr (by simp)⟩
instance (i j:Int):Decidable (Yc0 i j):=by unfold Yc0; exact inferInstance
instance (i j:Int):Decidable (Zye i j):=by unfold Zye; exact inferInstance
instance (i j:Int):Decidable (Yc8 i j):=by unfold Yc8; exact inferInstance
def Yb4 (_ j:Int):Prop:=0<j
instance (i j:Int):Decidable (Yb4 i j):=by unfold Yb4; exact inferInstance
nonrec def Zll:F2:=iiD CT fun i j=>.int (i - j)
nonrec def Zq5:F2:=iiD Yc0 fun i j=>.int (i / j)
nonrec def Zfm:F2:=iiD Yb4 fun i j=>.int (i % j)
nonrec def Yat:F2:=iiD Yc8 fun i j=>.int (i ^ j.toNat)
nonrec def ltD:F2:=iiD CT fun i j=>.bl (decide (i<j))
nonrec def leD:F2:=iiD CT fun i j=>.bl (decide (i<=j))
nonrec def gtD:F2:=iiD CT fun i j=>.bl (decide (j<i))
nonrec def geD:F2:=iiD CT fun i j=>.bl (decide (j<=i))
theorem Zf2:OpF X (Vy .Sub) Zll:=Zpq (Yce Ycm)
theorem Zkw:OpF X (Vy .FloorDiv) Zq5:=Zpq Zzw
theorem Zfv:OpF X (Vy .Mod) Zfm:=Zpq (C:=Yb4) Ybi
theorem Zoi:OpF X (Vy .Pow) Yat:=Zpq Ydx
theorem Zmy:OpF X (Vr .Lt) ltD:=Zpy op_lt
theorem Zpb:OpF X (Vr .LtE) leD:=Zpy op_le
theorem Zma:OpF X (Vr .Gt) gtD:=Zpy op_gt
theorem Ybc:OpF X (Vr .GtE) geD:=Zpy op_ge
nonrec def Zjv:D->HD->Option (D×HD):=fun x H=>match x with
 | .int i=>some (.int (-i),H)
 | _=>none
theorem Zc1:UnF X (unaryOp .USub) Zjv:=by
 rintro pins s σ H x v Q I rx ⟨ι,dx,Hd,d,Hd',hr,r1,e,q⟩
 cases dx<;>simp only[Zjv] at e<;>try cases e
 simp at r1
 exact Ybs pins s σ H x v Q I rx ⟨_,r1,q _ H ι Le.refl hr (by simp)⟩
theorem Zwp {prog:Vh} {w:Vu} {A:Vt} {E:Vb->Vd->Prop} {s:Vd} {t b:Ve} {ws:List Vb} {Q:Vb->Vd->Prop} (ht:Uem s.heap t #[]) (hb:Uem s.heap b ws.toArray)
  (h1:Q (.ref b) s):Vf (Vm prog w) A (Vy .Add (.ref t) (.ref b)) Q E s:=by
 obtain⟨⟨cls,dd,data,sl⟩,ho,hc,n,hd⟩:=id ht
 obtain⟨⟨cls2,dd2,data2,sl2⟩,ho2,hc2,n2,hd2⟩:=id hb
 simp only at hc hd hc2 hd2
 subst hc hd hc2 hd2
 exact Udw ⟨_,ho,rfl⟩ ⟨_,ho2,rfl⟩ Ucc Udo Tap Tan (Tak _ _)
   (tuple_addW0 t b #[] ws.toArray n n2 dd dd2 sl sl2 (by simp)) ⟨ho,ho2,h1⟩
nonrec def Zb0:F2:=fun x y H=>match x,y with
 | .int i,.int j=>some (.int (i+j),H)
 | .str a,.str b=>if a.length+b.length<=sizeLine then some (.str (a++b),H) else none
 | .tup a,.tup b=>mkT (a++b) H
 | .ref n,.ref m=>match H[n]?,H[m]? with
  | some (.lst a),some (.lst b)=>mkL (a++b) H
  | _,_=>none
 | _,_=>none
theorem Zbb:OpF X (Vy .Add) Zb0:=by
 rintro pins s σ H x y v u Q I rx ry ⟨ι,dx,dy,Hd,d,Hd',hr,r1,r2,e,q⟩
 cases dx<;>cases dy<;>simp only[Zb0] at e<;>try cases e
 ·simp at r1 r2
  exact Yde pins s σ H x y v u Q I rx ry ⟨_,_,r1,r2,q _ H ι Le.refl hr (by simp)⟩
 ·simp at r1 r2
  split at e
  ·rename_i hl
   cases e
   exact Zq3 pins s σ H x y v u Q I rx ry ⟨_,_,r1,r2,hl,q _ H ι Le.refl hr (by simp)⟩
  ·cases e
 ·rename_i as bs
  obtain⟨a,vs,rfl,h1,p1⟩:=Zbc.mp r1
  obtain⟨b,ws,rfl,h2,p2⟩:=Zbc.mp r2
  cases p1 with
  | nil =>
   obtain⟨hl,e⟩:=Zhv e
   simp only[Wct,Wbe.injEq] at e
   obtain⟨rfl,rfl⟩:=e
   cases rx
   cases ry
   obtain⟨its,q1,t1,_⟩:=I.tuple h1
   obtain⟨its2,q2,t2,_⟩:=I.tuple h2
   cases q1
   exact Zwp t1 t2 ⟨.ref b,H,I,rfl,q _ H ι Le.refl hr r2⟩
  | cons p p' =>
   have P:=Prd.append (.cons p p') p2
   obtain⟨hl,e'⟩:=Zhv e
   cases p2 with
   | nil =>
    simp only[Waa,Wbe.injEq] at e'
    obtain⟨rfl,rfl⟩:=e'
    refine Zr4 pins s σ H _ _ v u Q I rx ry ⟨a,b,_,_,rfl,rfl,h1,h2,by simp,?_,fun _=>q _ H ι Le.refl hr r1,fun z=>absurd rfl z⟩
    have:=Prd.len P
    simp only[Waa] at this hl
    simp only[Wav]
    omega
   | cons p3 p4 =>
    obtain⟨k1,k2⟩:=Zii hr P e q
    refine Zr4 pins s σ H _ _ v u Q I rx ry ⟨a,b,_,_,rfl,rfl,h1,h2,by simp,?_,fun z=>absurd z (by simp),fun _=>k2⟩
    rw[<- Xl]; exact k1
 ·rename_i n m
  obtain⟨a,rfl,ha⟩:=Za0.mp r1
  obtain⟨b,rfl,hb⟩:=Za0.mp r2
  split at e
  ·rename_i as bs e1 e2
   obtain⟨vs,h1,p1⟩:=hr.obj n a _ ha e1
   obtain⟨ws,h2,p2⟩:=hr.obj m b _ hb e2
   obtain⟨k1,k2⟩:=Zga hr (Prd.append p1 p2) e q
   exact Ya7 pins s σ H _ _ v u Q I rx ry ⟨a,b,vs,ws,rfl,rfl,h1,h2,by rw[<- Xl]; exact k1,k2⟩
  ·cases e
nonrec def Zp7:F2:=fun x y H=>match x,y with
 | .int i,.int j=>if Zye i j then some (.int (i*j),H) else none
 | .ref n,.int k=>match H[n]? with
  | some (.lst a)=>if -(2 ^ 63)<=k/\k<2 ^ 63/\a.length*k.toNat<=sizeLine then mkL (Xs k.toNat a).flatten H else none
  | _=>none
 | .tup a,.int k=>if -(2 ^ 63)<=k/\k<2 ^ 63/\a.length*k.toNat<=sizeLine then mkT (Xs k.toNat a).flatten H else none
 | _,_=>none
theorem Zhc:OpF X (Vy .Mult) Zp7:=by
 rintro pins s σ H x y v u Q I rx ry ⟨ι,dx,dy,Hd,d,Hd',hr,r1,r2,e,q⟩
 cases dx<;>cases dy<;>simp only[Zp7] at e<;>try cases e
 ·simp at r1 r2
  split at e
  ·rename_i hc
   cases e
   exact Yc5 pins s σ H x y v u Q I rx ry ⟨_,_,r1,r2,hc,q _ H ι Le.refl hr (by simp)⟩
  ·cases e
 ·rename_i as k
  obtain⟨a,vs,rfl,h1,p1⟩:=Zbc.mp r1
  simp at r2
  split at e
  ·rename_i hc
   have hlen:=Prd.len p1
   obtain⟨k1,k2⟩:=Zii hr (Prd.rep p1 k.toNat) e q
   refine Zzd pins s σ H _ _ v u Q I rx ry ⟨a,k,vs,rfl,r2,h1,hc.1,hc.2.1,by rw[<- hlen]; exact hc.2.2,fun z=>?_,fun _ _=>k2⟩
   obtain⟨_,e'⟩:=Zhv e
   have hf:(Xs k.toNat as).flatten=as:=by
    rcases z with z | z
    ·have:as=[]:=List.eq_nil_of_length_eq_zero (by rw[hlen,z]; rfl)
     subst this
     simp
    ·subst z
     simp
   rw[hf] at e'
   cases e'
   exact q _ H ι Le.refl hr r1
  ·cases e
 ·rename_i n k
  obtain⟨a,rfl,ha⟩:=Za0.mp r1
  simp at r2
  split at e
  ·rename_i as e1
   obtain⟨vs,h1,p1⟩:=hr.obj n a _ ha e1
   split at e
   ·rename_i hc
    obtain⟨k1,k2⟩:=Zga hr (Prd.rep p1 _) e q
    exact Yc7 pins s σ H _ _ v u Q I rx ry ⟨a,k,vs,rfl,r2,h1,hc.1,hc.2.1,by rw[<- Prd.len p1]; exact hc.2.2,k2⟩
   ·cases e
  ·cases e
nonrec def Zm0:D->HD->Option (List D)
 | .tup xs,_=>some xs
 | .fl xs,_=>some xs
 | .ref n,H=>match H[n]? with
  | some (.lst xs)=>some xs
  | _=>none
 | _,_=>none
theorem Zl7 {K:Xb} {H:Hp} {ι:List Ve} {Hd:HD} {d:D} {xs:List D} {v:V} (hr:HRep K H ι Hd) (r:Rep K H ι d v) (e:Zm0 d Hd=some xs):∃ p vs,v=.ref p/\(SqL K H p vs\/SqT K H p vs)/\Vj (Rep K H ι) xs vs:=by
 cases d with
 | tup ys=>cases e; obtain⟨a,vs,rfl,h,p⟩:=Zbc.mp r; exact⟨a,vs,rfl,.inr h,p⟩
 | fl ys=>cases e; obtain⟨a,vs,rfl,h,p⟩:=Zgq.mp r; exact⟨a,vs,rfl,.inl h.sq,p⟩
 | ref n =>
  obtain⟨a,rfl,ha⟩:=Za0.mp r
  simp only[Zm0] at e
  split at e
  ·rename_i ys e1
   cases e
   obtain⟨vs,h1,p1⟩:=hr.obj n a _ ha e1
   exact⟨a,vs,rfl,.inl (SqL.of h1),p1⟩
  ·cases e
 | _=>simp[Zm0] at e
theorem Zy8 {α β:Type} {F:α->β->Prop} {xs:List α} {us:List β} {i:Int} {x:α} (r:Vj F xs us) (h:atI xs i=some x):∃ u,atI us i=some u/\F x u:=by
 unfold atI at h ⊢
 rw[<- Prd.len r]
 obtain⟨j,h1,h2⟩:=Zo h
 obtain⟨u,h3,h4⟩:=Prd.get r h2
 exact⟨u,by rw[h1]; exact h3,h4⟩
nonrec def ixD:F2:=fun x y H=>match y with
 | .int i=>(Zm0 x H).bind fun xs=>(atI xs i).map fun d=>(d,H)
 | _=>none
theorem ixf:IxF X ixD:=by
 rintro va sl pins s σ H x y v u Q I rx ry ⟨ι,dx,dy,Hd,d,Hd',hr,r1,r2,e,q⟩ hs
 cases dy<;>simp only[ixD] at e<;>try cases e
 rename_i i
 simp at r2
 obtain⟨xs,e1,e⟩:=Zo e
 obtain⟨d',e2,e⟩:=Zm e
 obtain⟨rfl,rfl⟩:=Wbe.inj e
 obtain⟨p,vs,rfl,h,P⟩:=Zl7 hr r1 e1
 obtain⟨z,hz,rz⟩:=Zy8 P e2
 rcases h with h | h
 ·exact Zze va sl pins s σ H _ _ v u Q I rx ry ⟨p,vs,i,z,rfl,r2,h,hz,q _ H ι Le.refl hr rz⟩ hs
 ·exact Ycq va sl pins s σ H _ _ v u Q I rx ry ⟨p,vs,i,z,rfl,r2,h,hz,q _ H ι Le.refl hr rz⟩ hs
nonrec def Znp (xs:List D) (lo hi:Option Int):List D:=(xs.drop (HT.sIx xs.length 0 lo)).take (HT.sIx xs.length xs.length hi - HT.sIx xs.length 0 lo)
theorem Zkt {K:Xb} {H:Hp} {ι:List Ve} {xs:List D} {vs:List V} (P:Vj (Rep K H ι) xs vs) (lo hi:Option Int):Vj (Rep K H ι) (Znp xs lo hi) (Zya vs lo hi):=by
 unfold Znp Zya
 rw[<- Prd.len P]
 exact Prd.take _ (Prd.drop _ P)
nonrec abbrev OF:=SD->HD->Option (Option Int×HD)
nonrec def rdO (K:Xb) (f:OF):TO:=fun σ H Q=>∃ ι σd Hd o Hd',SRep K H ι σ σd/\HRep K H ι Hd/\f σd Hd=some (o,Hd')/\∀ H' ι',Le K H ι H' ι'->HRep K H' ι' Hd'->Q o H'
def POf (X:Cx) (e:Option Vv) (f:OF):Prop:=PO X e (rdO X.K f)
nonrec def Zfy:OF:=fun _ H=>some (none,H)
nonrec def Ze2 (f:EF):OF:=fun σ H=>(f σ H).bind fun p=>match p.1 with
 | .int i=>some (some i,p.2)
 | _=>none
theorem Zd1:POf X none Zfy:=by
 rintro pins s σ H Q I ⟨ι,σd,Hd,o,Hd',sr,hr,e,q⟩
 cases e
 exact Zyy pins s σ H Q I (q H ι Le.refl hr)
theorem Zgj {e:Vv} {f:EF} (h:PEf X e f):POf X (some e) (Ze2 f):=by
 rintro pins s σ H Q I ⟨ι,σd,Hd,o,Hd',sr,hr,e,q⟩
 obtain⟨⟨d,H1⟩,e1,e⟩:=Zo e
 cases d<;>try cases e
 rename_i i
 exact Zzv h pins s σ H Q I ⟨ι,σd,Hd,_,_,sr,hr,e1,fun v H' ι' l h r=>⟨i,by simpa using r,q H' ι' l h⟩⟩
nonrec def slD (x:D) (lo hi:Option Int) (H:HD):Option (D×HD):=match x with
 | .tup xs=>some (.tup (Znp xs lo hi),H)
 | .fl xs=>some (.ref H.length,H++[.lst (Znp xs lo hi)])
 | .ref n=>match H[n]? with
  | some (.lst xs)=>some (.ref H.length,H++[.lst (Znp xs lo hi)])
  | _=>none
 | _=>none
theorem Zgb {prog:Vh} {w:Vu} {A:Vt} {E:Vb->Vd->Prop} {s:Vd} {t sl:Ve} {items:Array Vb} {vl vu:Vb} {lo hi:Option Int} {Q:Vb->Vd->Prop} (ht:Uem s.heap t items) (hs:s.heap.IsSliceOf sl vl vu .none) (pl:Udp vl lo) (pu:Udp vu hi)
  (hw:HT.sIx items.size 0 lo=0/\HT.sIx items.size items.size hi=items.size) (h:Q (.ref t) s):Vf (Vm prog w) A (Udk (.ref t) (.ref sl)) Q E s:=by
 obtain⟨os,hos,hcs,hds⟩:=id hs
 have hTs:s.TypeIs (.ref sl) "slice" := ⟨os,hos,hcs⟩
 obtain⟨ot,hot,hct,nt,hdt⟩:=id ht
 unfold Udk
 try with_reducible refine Vw ?_
 first | refine Va (Vc ?_) | skip
 refine Va (wpAny_sequenceKey ht.typeIs (by decide) ?_)
 refine Va (Vi (name:=Ua "__getitem__") ht.typeIs Uf
  (Vp Uf ht.typeIs entry_tuple_getitem ?_ (args_tuple_getitem _ _)))
 show Vf _ _ (Tbg (.ref t) >>= _) _ _ s
 refine Va (tupleItemsOf_ ht ?_)
 refine Va (Ucp hTs ?_)
 rw[if_pos (by decide)]
 refine Va (HT.sliceApplied_gen hs pl pu ?_)
 show Vf _ _ (if (((HT.sIx items.size 0 lo:Nat):Int)==0&&(1:Int)==1&&(HT.sIx items.size items.size hi - HT.sIx items.size 0 lo)==items.size)=true then _ else _) _ _ s
 rw[if_pos (by rw[hw.1,hw.2]; simp)]
 show Vf _ _ (Tbi (Uw t) >>= _) _ _ s
 unfold Tbi
 refine Va (Va (Ucp ht.typeIs (Vc ?_)))
 rw[if_pos (by decide)]
 exact Va (Ubi (Vc ⟨_,rfl,Vc h⟩))
theorem Zqe {xs:List D} {lo hi:Option Int} (h:HT.sIx xs.length 0 lo=0/\HT.sIx xs.length xs.length hi=xs.length):Znp xs lo hi=xs:=by
 unfold Znp
 rw[h.1,h.2]; simp
nonrec def rdSl (K:Xb):V->Option Int->Option Int->Hp->VK->Prop:=fun x lo hi H Q=>∃ ι dx Hd d Hd',HRep K H ι Hd/\Rep K H ι dx x/\slD dx lo hi Hd=some (d,Hd')/\QE K H ι d Hd' Q
theorem slf:SlR X (rdSl X.K):=by
 rintro pins s σ H x v vl vu lo hi sl Q I rx hs pl pu ⟨ι,dx,Hd,d,Hd',hr,r,e,q⟩
 have lists:∀ {a:Ve} {xs:List D} {vs:List V},x=.ref a->SqL X.K H a vs->Vj (Rep X.K H ι) xs vs->(D.ref Hd.length,Hd++[DO.lst (Znp xs lo hi)])=(d,Hd') ->
   ∃ T id,typeLookup (.type T) "__getitem__" = pure (some (.builtin id))/\s.TypeIs v T/\Vf (Vm X.prog X.w) X.A (Udk v (.ref sl)) (EP X pins σ Q) X.xe s:=fun {a xs vs} ex h P e=>by
  obtain⟨_,_,_,hz⟩:=I.list h
  have hz2:(Znp xs lo hi).length<=sizeLine:=by
   rw[Prd.len (Zkt P lo hi)]
   exact Waf (Zet vs lo hi) hz
  obtain⟨k1,k2⟩:=Zga hr (Zkt P lo hi) (show mkL (Znp xs lo hi) Hd=some (d,Hd') by unfold mkL; rw[if_pos hz2,e]) q
  exact Zy4 pins s σ H x v vl vu lo hi sl Q I rx hs pl pu ⟨a,vs,ex,h,k2⟩
 cases dx with
 | tup xs =>
  obtain⟨a,vs,rfl,h,P⟩:=Zbc.mp r
  simp only[slD,Xy.injEq] at e
  obtain⟨its,rv,ht,hz⟩:=I.tuple h
  have hlen:its.toArray.size=vs.length:=by rw[Xm]; exact rv.length.symm
  by_cases hw:HT.sIx vs.length 0 lo=0/\HT.sIx vs.length vs.length hi=vs.length
  ·cases rx
   refine⟨"tuple",_,Uf.lookup,ht.typeIs,Zgb ht hs pl pu (by rw[hlen]; exact hw) ?_⟩
   rw[Zqe (by rw[Prd.len P]; exact hw)] at e
   obtain⟨rfl,rfl⟩:=Wbe.inj e
   exact⟨.ref a,H,I,rfl,q _ H ι Le.refl hr r⟩
  ·have hz2:(Znp xs lo hi).length<=sizeLine:=by
    rw[Prd.len (Zkt P lo hi)]
    exact Waf (Zet vs lo hi) hz
   obtain⟨k1,k2⟩:=Zii hr (Zkt P lo hi) (show mkT (Znp xs lo hi) Hd=some (d,Hd') by unfold mkT; rw[if_pos hz2,e]) q
   exact Ya8 pins s σ H _ v vl vu lo hi sl Q I rx hs pl pu ⟨a,vs,rfl,h,hw,k2⟩
 | fl xs =>
  obtain⟨a,vs,rfl,h,P⟩:=Zgq.mp r
  simp only[slD,Xy.injEq] at e
  exact lists rfl h.sq P e
 | ref n =>
  obtain⟨a,rfl,ha⟩:=Za0.mp r
  simp only[slD] at e
  split at e
  ·rename_i xs e1
   obtain⟨vs,h1,P⟩:=hr.obj n a _ ha e1
   exact lists rfl (SqL.of h1) P (Xy.inj e)
  ·cases e
 | _=>simp[slD] at e
nonrec def eSl (fe:EF) (fl fh:OF):EF:=fun σ H=>(fe σ H).bind fun p=>(fl σ p.2).bind fun l=>(fh σ l.2).bind fun h=>slD p.1 l.1 h.1 h.2
theorem Zcq {e:Vv} {lo hi:Option Vv} {fe:EF} {fl fh:OF} {pos p2:Pos} (he:PEf X e fe) (hl:POf X lo fl) (hu:POf X hi fh):PEf X (.Subscript e (.Slice lo hi none p2) pos) (eSl fe fl fh):=by
 refine PEi (Zv1 slf he hl hu) fun σ H Q zz=>?_
 obtain⟨ι,σd,Hd,d,Hd',s,hr,e,q⟩:=zz
 obtain⟨⟨x,H1⟩,e1,e⟩:=Zo e
 obtain⟨⟨y,H2⟩,e2,e⟩:=Zo e
 obtain⟨⟨z,H3⟩,e3,e⟩:=Zo e
 exact⟨ι,σd,Hd,x,H1,s,hr,e1,fun v1 H1' ι1 l1 h1 r1=>⟨ι1,σd,H1,y,H2,s.mono l1,h1,e2,fun H2' ι2 l2 h2=>⟨ι2,σd,H2,z,H3,s.mono (l1.trans l2),h2,e3,fun H3' ι3 l3 h3 =>
  ⟨ι3,x,H3,d,Hd',h3,r1.mono (l2.trans l3),e,fun v H' ι' l h r=>q v H' ι' (((l1.trans l2).trans l3).trans l) h r⟩⟩⟩⟩
nonrec def Zct:FF:=fun ds H=>match ds with
 | [.str x]=>if x.length<=sizeLine then some (.int x.length,H) else none
 | [d]=>(Zm0 d H).map fun xs=>(.int xs.length,H)
 | _=>none
theorem Zl0 {K:Xb} {H:Hp} {ι:List Ve} {d:D} {vs:List V} (P:Vj (Rep K H ι) [d] vs):∃ v,vs=[v]/\Rep K H ι d v:=by
 cases P with
 | cons r t=>cases t; exact⟨_,rfl,r⟩
theorem Ybh {K:Xb} {H:Hp} {ι:List Ve} {d d':D} {vs:List V} (P:Vj (Rep K H ι) [d,d'] vs):∃ v v',vs=[v,v']/\Rep K H ι d v/\Rep K H ι d' v':=by
 cases P with
 | cons r t=>obtain⟨v,rfl,r'⟩:=Zl0 t; exact⟨_,_,rfl,r,r'⟩
theorem Zis:Zih X (.builtin "len") Zct:=by
 rintro pins s σ H xs us Q I rv ⟨ι,ds,Hd,d,Hd',hr,P,e,q⟩
 unfold Zct at e
 split at e
 ·obtain⟨v,rfl,r⟩:=Zl0 P
  simp at r
  subst r
  split at e
  ·rename_i hl
   cases e
   exact Zl1 pins s σ H _ us Q I rv ⟨_,rfl,hl,q _ H ι Le.refl hr (by simp)⟩
  ·cases e
 ·obtain⟨v,rfl,r⟩:=Zl0 P
  obtain⟨ys,e1,e⟩:=Zm e
  obtain⟨rfl,rfl⟩:=Wbe.inj e
  obtain⟨p,vs,rfl,h,P2⟩:=Zl7 hr r e1
  exact Zl9 pins s σ H _ us Q I rv ⟨p,vs,rfl,h,q _ H ι Le.refl hr (by simp[Prd.len P2])⟩
 ·cases e
nonrec def Zws:FF:=fun ds H=>match ds with
 | [.int i]=>some (.int (if i<0 then -i else i),H)
 | _=>none
theorem Zs6:Zih X (.builtin "abs") Zws:=by
 rintro pins s σ H xs us Q I rv ⟨ι,ds,Hd,d,Hd',hr,P,e,q⟩
 unfold Zws at e
 split at e
 ·obtain⟨v,rfl,r⟩:=Zl0 P
  simp at r
  subst r
  cases e
  exact Zw7 pins s σ H _ us Q I rv ⟨_,rfl,q _ H ι Le.refl hr (by simp)⟩
 ·cases e
nonrec def Ycp:FF:=fun ds H=>match ds with
 | [.int i,.int j]=>some (.int (if j > i then j else i),H)
 | _=>none
theorem Znf (hc:X.calm=true):Zih X (.builtin "max") Ycp:=by
 rintro pins s σ H xs us Q I rv ⟨ι,ds,Hd,d,Hd',hr,P,e,q⟩
 unfold Ycp at e
 split at e
 ·obtain⟨v,v',rfl,r,r'⟩:=Ybh P
  simp at r r'
  subst r r'
  cases e
  exact Zr8 hc pins s σ H _ us Q I rv ⟨_,_,rfl,q _ H ι Le.refl hr (by simp)⟩
 ·cases e
nonrec def Zrn:FF:=fun ds H=>match ds with
 | [.int i]=>some (.int i,H)
 | [.bl b]=>some (.int (if b then 1 else 0),H)
 | _=>none
theorem Zuk:Zih X (.type "int") Zrn:=by
 rintro pins s σ H xs us Q I rv ⟨ι,ds,Hd,d,Hd',hr,P,e,q⟩
 unfold Zrn at e
 split at e
 ·obtain⟨v,rfl,r⟩:=Zl0 P
  simp at r
  subst r
  cases e
  exact Zmv pins s σ H _ us Q I rv (.inl ⟨_,rfl,q _ H ι Le.refl hr (by simp)⟩)
 ·obtain⟨v,rfl,r⟩:=Zl0 P
  simp at r
  subst r
  cases e
  exact Zmv pins s σ H _ us Q I rv (.inr ⟨_,rfl,q _ H ι Le.refl hr (by simp)⟩)
 ·cases e
nonrec def Zvu:FF:=fun ds H=>match ds with
 | [d]=>(Zm0 d H).map fun xs=>(.ref H.length,H++[.lst xs])
 | _=>none
theorem Zp0 {pins:List (Ve×Obj)} {s:Vd} {σ:L2.St} {H:Hp} {p:Ve} {vs:List V} (I:Inv X pins σ H s) (h:SqL X.K H p vs\/SqT X.K H p vs):vs.length<=sizeLine:=by
 rcases h with h | h
 ·obtain⟨_,_,_,z⟩:=I.list h; exact z
 ·obtain⟨_,_,_,z⟩:=I.tuple h; exact z
theorem Zqv:Zih X (.type "list") Zvu:=by
 rintro pins s σ H xs us Q I rv ⟨ι,ds,Hd,d,Hd',hr,P,e,q⟩
 unfold Zvu at e
 split at e
 ·obtain⟨v,rfl,r⟩:=Zl0 P
  obtain⟨ys,e1,e⟩:=Zm e
  obtain⟨p,vs,rfl,h,P2⟩:=Zl7 hr r e1
  obtain⟨k1,k2⟩:=Zga hr P2 (show mkL ys Hd=some (d,Hd') by unfold mkL; rw[if_pos (by rw[Prd.len P2]; exact Zp0 I h),e]) q
  exact Znh pins s σ H _ us Q I rv ⟨p,vs,rfl,h,k2⟩
 ·cases e
nonrec def Zd7:FF:=fun ds H=>match ds with
 | [d]=>(Zm0 d H).map fun xs=>(.tup xs,H)
 | _=>none
theorem Zn1:Zih X (.type "tuple") Zd7:=by
 rintro pins s σ H xs us Q I rv ⟨ι,ds,Hd,d,Hd',hr,P,e,q⟩
 unfold Zd7 at e
 split at e
 ·rename_i d0
  obtain⟨v,rfl,r⟩:=Zl0 P
  obtain⟨ys,e1,e⟩:=Zm e
  obtain⟨p,vs,rfl,h,P2⟩:=Zl7 hr r e1
  obtain⟨k1,k2⟩:=Zii hr P2 (show mkT ys Hd=some (d,Hd') by unfold mkT; rw[if_pos (by rw[Prd.len P2]; exact Zp0 I h),e]) q
  refine Zkp pins s σ H _ us Q I rv ⟨p,vs,rfl,?_⟩
  rcases h with h | h
  ·exact .inl ⟨h,k2⟩
  ·obtain⟨rfl,rfl⟩:=Wbe.inj e
   exact .inr ⟨h,q _ H ι Le.refl hr (Zbc.mpr ⟨p,vs,rfl,h,P2⟩)⟩
 ·cases e
nonrec def Zb1 (x:D) (ds:List D) (H:HD):Option (D×HD):=match x,ds with
 | .ref n,[d]=>match H[n]? with
  | some (.lst xs)=>if xs.length<sizeLine then some (.non,H.set n (.lst (xs++[d]))) else none
  | _=>none
 | _,_=>none
theorem Zcw:MtF X "list.append" Zb1:=by
 rintro pins s σ H x xs v us Q I rx rv ⟨ι,dx,ds,Hd,d,Hd',hr,r1,P,e,q⟩
 unfold Zb1 at e
 split at e
 ·rename_i n d1
  obtain⟨a,rfl,ha⟩:=Za0.mp r1
  obtain⟨z,rfl,rz⟩:=Zl0 P
  split at e
  ·rename_i ys e1
   split at e
   ·rename_i hl
    cases e
    obtain⟨vs,h1,P1⟩:=hr.obj n a _ ha e1
    refine Zi1 pins s σ H _ _ v us Q I rx rv ⟨a,vs,z,rfl,rfl,h1,by rw[<- Prd.len P1]; exact hl,?_⟩
    have L:Le X.K H ι (upd H a (.lst (vs++[z]))) ι:=Le.upd (Xu ha) h1 trivial _
    exact q _ _ ι L (hr.upd ha h1 trivial ⟨_,Zaq,Prd.append (Prd.mono L P1) (.cons (rz.mono L) .nil)⟩) (by simp)
   ·cases e
  ·cases e
 ·cases e
end
mutual
noncomputable def toP (H:HD):Nat->D->Option Uaf
 | _,.non=>some .none
 | _,.bl b=>some (.bool b)
 | _,.int i=>some (.int i)
 | _,.str x=>some (.str x)
 | _,.ty _=>none
 | n,.tup xs=>(Zrz H n xs).map .tuple
 | n,.fl xs=>(Zrz H n xs).map .list
 | 0,.ref _=>none
 | n+1,.ref k=>match H[k]? with
  | some (.lst xs)=>(Zrz H n xs).map .list
  | _=>none
termination_by n d=>(n,sizeOf d)
noncomputable def Zrz (H:HD):Nat->List D->Option (List Uaf)
 | _,[]=>some []
 | n,d::ds=>(toP H n d).bind fun x=>(Zrz H n ds).map fun r=>x::r
termination_by n ds=>(n,sizeOf ds)
end
section
variable {X:Cx} {pins:List (Ve×Obj)} {σ:L2.St} {H:Hp} {s:Vd} {ι:List Ve} {Hd:HD}
mutual
theorem Zdf (I:Inv X pins σ H s) (hr:HRep X.K H ι Hd):∀ (n:Nat) (d:D) {x:Uaf} {v:V} {u:Vb},toP Hd n d=some x->Rep X.K H ι d v->Zcg v u->∃ as,Reads s.heap u x as
 | n,.non,x,v,u,e,r,q=>by
  rw[toP] at e; cases e; simp at r; subst r; cases q; exact⟨_,.none⟩
 | n,.bl b,x,v,u,e,r,q=>by
  rw[toP] at e; cases e; simp at r; subst r; cases q; exact⟨_,.bool b⟩
 | n,.int i,x,v,u,e,r,q=>by
  rw[toP] at e; cases e; simp at r; subst r; obtain⟨t,rfl⟩:=q; exact⟨_,.int i t⟩
 | n,.str z,x,v,u,e,r,q=>by
  rw[toP] at e; cases e; simp at r; subst r; obtain⟨t,rfl⟩:=q; exact⟨_,.str z t⟩
 | n,.ty _,x,v,u,e,r,q=>by rw[toP] at e; cases e
 | n,.tup xs,x,v,u,e,r,q=>by
  rw[toP] at e
  obtain⟨ps,e1,rfl⟩:=Zm e
  obtain⟨a,vs,rfl,h,P⟩:=Zbc.mp r
  cases q
  obtain⟨its,rv,⟨o,ho,hc,m,hd⟩,hz⟩:=I.tuple h
  obtain⟨as,ra⟩:=Zer I hr n xs e1 P rv
  exact⟨_,.tuple ho hc hd (by simpa using ra)⟩
 | n,.fl xs,x,v,u,e,r,q=>by
  rw[toP] at e
  obtain⟨ps,e1,rfl⟩:=Zm e
  obtain⟨a,vs,rfl,h,P⟩:=Zgq.mp r
  cases q
  obtain⟨its,rv,pl,hz⟩:=I.list h.sq
  obtain⟨o,ho,hc,m,hd⟩:=pl.isList
  obtain⟨as,ra⟩:=Zer I hr n xs e1 P rv
  exact⟨_,.list ho hc hd (by simpa using ra)⟩
 | 0,.ref k,x,v,u,e,r,q=>by rw[toP] at e; cases e
 | n+1,.ref k,x,v,u,e,r,q=>by
  rw[toP] at e
  split at e
  ·rename_i xs eo
   obtain⟨ps,e1,rfl⟩:=Zm e
   obtain⟨a,rfl,ha⟩:=Za0.mp r
   cases q
   obtain⟨vs,h1,P⟩:=hr.obj k a _ ha eo
   obtain⟨its,rv,pl,hz⟩:=I.list (SqL.of h1)
   obtain⟨o,ho,hc,m,hd⟩:=pl.isList
   obtain⟨as,ra⟩:=Zer I hr n xs e1 P rv
   exact⟨_,.list ho hc hd (by simpa using ra)⟩
  ·cases e
termination_by n d=>(n,sizeOf d)
theorem Zer (I:Inv X pins σ H s) (hr:HRep X.K H ι Hd):∀ (n:Nat) (ds:List D) {xs:List Uaf} {vs:List V} {us:List Vb},Zrz Hd n ds=some xs->Vj (Rep X.K H ι) ds vs->Zb8 vs us->∃ as,ReadsAll s.heap us xs as
 | n,[],xs,vs,us,e,P,q=>by
  rw[Zrz] at e; cases e; cases P; cases q; exact⟨_,.nil⟩
 | n,d::ds,xs,vs,us,e,P,q=>by
  rw[Zrz] at e
  obtain⟨x,e1,e⟩:=Zo e
  obtain⟨r,e2,rfl⟩:=Zm e
  cases P with
  | cons p P =>
   cases q with
   | cons q Q =>
    obtain⟨as,ra⟩:=Zdf I hr n d e1 p q
    obtain⟨bs,rb⟩:=Zer I hr n ds e2 P Q
    exact⟨_,.cons ra rb⟩
termination_by n ds=>(n,sizeOf ds)
end
nonrec def okP (x:Uaf):Bool:=x.canLay0&&decide (x.depth<=30)
nonrec def dat (d:D) (H:HD):Option Uaf:=(toP H 30 d).bind fun x=>if okP x=true then some x else none
theorem Zdz {d:D} {x:Uaf} (e:dat d Hd=some x):toP Hd 30 d=some x/\x.canLay0=true/\x.depth<=30:=by
 obtain⟨y,e1,e⟩:=Zo e
 split at e
 ·rename_i h
  cases e
  rw[okP,Wam,decide_eq_true_eq] at h
  exact⟨e1,h⟩
 ·cases e
nonrec def Zrd:D->D->Option (Str×Str)
 | .str a,.str b=>some (a,b)
 | _,_=>none
theorem Zm7 {x y:D} {a b:Str} (h:Zrd x y=some (a,b)):x=.str a/\y=.str b:=by
 unfold Zrd at h
 split at h
 ·cases h; exact⟨rfl,rfl⟩
 ·cases h
nonrec def eqD:F2:=fun x y H=>match Zrd x y with
 | some (a,b)=>some (.bl (a==b),H)
 | none=>(dat x H).bind fun p=>(dat y H).map fun q=>(.bl (Ub p q),H)
nonrec def neD:F2:=fun x y H=>match Zrd x y with
 | some (a,b)=>some (.bl (a != b),H)
 | none=>(dat x H).bind fun p=>(dat y H).map fun q=>(.bl (!Ub p q),H)
theorem Zco (hu:X.A.units+64<cLine):OpF X (Vr .Eq) eqD:=by
 rintro pins s σ H x y v u Q I rx ry ⟨ι,dx,dy,Hd,d,Hd',hr,r1,r2,e,q⟩
 unfold eqD at e
 split at e
 ·rename_i a b es
  obtain⟨rfl,rfl⟩:=Zm7 es
  obtain⟨rfl,rfl⟩:=Wbe.inj (Xy.inj e)
  simp at r1 r2
  subst r1 r2
  obtain⟨t1,rfl⟩:=rx
  obtain⟨t2,rfl⟩:=ry
  exact PyProof.Rows.eq_str ⟨.bl _,H,I,rfl,q _ H ι Le.refl hr (by simp)⟩
 ·obtain⟨p,e1,e⟩:=Zo e
  obtain⟨p2,e2,e⟩:=Zm e
  obtain⟨rfl,rfl⟩:=Wbe.inj e
  obtain⟨t1,c1,d1⟩:=Zdz e1
  obtain⟨t2,c2,d2⟩:=Zdz e2
  obtain⟨as,ra⟩:=Zdf I hr _ _ t1 r1 rx
  obtain⟨bs,rb⟩:=Zdf I hr _ _ t2 r2 ry
  exact SeqAt.compareEq_reads ra rb c1 c2 (by omega) ⟨.bl _,H,I,rfl,q _ H ι Le.refl hr (by simp)⟩
theorem Zd9 (hu:X.A.units+64<cLine):OpF X (Vr .NotEq) neD:=by
 rintro pins s σ H x y v u Q I rx ry ⟨ι,dx,dy,Hd,d,Hd',hr,r1,r2,e,q⟩
 unfold neD at e
 split at e
 ·rename_i a b es
  obtain⟨rfl,rfl⟩:=Zm7 es
  obtain⟨rfl,rfl⟩:=Wbe.inj (Xy.inj e)
  simp at r1 r2
  subst r1 r2
  obtain⟨t1,rfl⟩:=rx
  obtain⟨t2,rfl⟩:=ry
  exact PyProof.Rows.ne_str ⟨.bl _,H,I,rfl,q _ H ι Le.refl hr (by simp)⟩
 ·obtain⟨p,e1,e⟩:=Zo e
  obtain⟨p2,e2,e⟩:=Zm e
  obtain⟨rfl,rfl⟩:=Wbe.inj e
  obtain⟨t1,c1,d1⟩:=Zdz e1
  obtain⟨t2,c2,d2⟩:=Zdz e2
  obtain⟨as,ra⟩:=Zdf I hr _ _ t1 r1 rx
  obtain⟨bs,rb⟩:=Zdf I hr _ _ t2 r2 ry
  exact SeqAt.compareNe_reads ra rb c1 c2 (by omega) ⟨.bl _,H,I,rfl,q _ H ι Le.refl hr (by simp)⟩
nonrec def Zlq:Uaf->Option (List Uaf)
 | .list xs=>some xs
 | .tuple xs=>some xs
 | _=>none
nonrec def inD:F2:=fun x y H=>(dat x H).bind fun p=>(dat y H).bind fun q=>(Zlq q).map fun xs=>(.bl (xs.any fun z=>Ub z p),H)
nonrec def niD:F2:=fun x y H=>(dat x H).bind fun p=>(dat y H).bind fun q=>(Zlq q).map fun xs=>(.bl (!xs.any fun z=>Ub z p),H)
theorem Zu6 (hu:X.A.units+64<cLine):OpF X (Vr .In) inD:=by
 rintro pins s σ H x y v u Q I rx ry ⟨ι,dx,dy,Hd,d,Hd',hr,r1,r2,e,q⟩
 obtain⟨p,e1,e⟩:=Zo e
 obtain⟨p2,e2,e⟩:=Zo e
 obtain⟨xs,e3,e⟩:=Zm e
 obtain⟨rfl,rfl⟩:=Wbe.inj e
 obtain⟨t1,c1,d1⟩:=Zdz e1
 obtain⟨t2,c2,d2⟩:=Zdz e2
 obtain⟨as,ra⟩:=Zdf I hr _ _ t1 r1 rx
 obtain⟨bs,rb⟩:=Zdf I hr _ _ t2 r2 ry
 have fin:EP X pins σ Q (.bool (xs.any fun z=>Ub z p)) s:=⟨.bl _,H,I,rfl,q _ H ι Le.refl hr (by simp)⟩
 cases p2 with
 | list ys =>
  cases e3
  simp only[Tac] at c2
  simp only[Tam] at d2
  exact SeqAt.in_list_reads rb ra c2 c1 (by omega) fin
 | tuple ys =>
  cases e3
  simp only[Tac] at c2
  simp only[Tam] at d2
  exact SeqAt.in_tuple_reads rb ra c2 c1 (by omega) fin
 | _=>simp[Zlq] at e3
theorem Zgs (hu:X.A.units+64<cLine):OpF X (Vr .NotIn) niD:=by
 rintro pins s σ H x y v u Q I rx ry ⟨ι,dx,dy,Hd,d,Hd',hr,r1,r2,e,q⟩
 obtain⟨p,e1,e⟩:=Zo e
 obtain⟨p2,e2,e⟩:=Zo e
 obtain⟨xs,e3,e⟩:=Zm e
 obtain⟨rfl,rfl⟩:=Wbe.inj e
 obtain⟨t1,c1,d1⟩:=Zdz e1
 obtain⟨t2,c2,d2⟩:=Zdz e2
 obtain⟨as,ra⟩:=Zdf I hr _ _ t1 r1 rx
 obtain⟨bs,rb⟩:=Zdf I hr _ _ t2 r2 ry
 have fin:EP X pins σ Q (.bool (!xs.any fun z=>Ub z p)) s:=⟨.bl _,H,I,rfl,q _ H ι Le.refl hr (by simp)⟩
 cases p2 with
 | list ys =>
  cases e3
  simp only[Tac] at c2
  simp only[Tam] at d2
  exact SeqAt.notIn_list_reads rb ra c2 c1 (by omega) fin
 | tuple ys =>
  cases e3
  simp only[Tac] at c2
  simp only[Tam] at d2
  exact SeqAt.notIn_tuple_reads rb ra c2 c1 (by omega) fin
 | _=>simp[Zlq] at e3
nonrec def isB (x y:D):Option Bool:=match y,x with
 | .non,.non=>some true
 | .non,_=>some false
 | .bl b,.bl c=>some (c==b)
 | .bl _,_=>some false
 | _,_=>none
nonrec def isD:F2:=fun x y H=>(isB x y).map fun b=>(.bl b,H)
nonrec def Yav:F2:=fun x y H=>(isB x y).map fun b=>(.bl (!b),H)
theorem Zor {M:Model} {A:Vt} {E:Vb->Vd->Prop} {s:Vd} {Q:Vb->Vd->Prop} {v:Vb} {b:Bool} (hv:∀ i,v≠.builtin i) (h:Q (.bool (v==.bool b)) s):Vf M A (Vr .Is v (.bool b)) Q E s:=by
 cases v<;>first | exact Vc h | exact absurd rfl (hv _)
theorem Zjo {M:Model} {A:Vt} {E:Vb->Vd->Prop} {s:Vd} {Q:Vb->Vd->Prop} {v:Vb} {b:Bool} (hv:∀ i,v≠.builtin i) (h:Q (.bool (!(v==.bool b))) s):Vf M A (Vr .IsNot v (.bool b)) Q E s:=by
 cases v<;>first | exact Vc h | exact absurd rfl (hv _)
theorem Zt7 {x:V} {v:Vb} (r:Zcg x v):∀ i,v≠.builtin i:=by
 intro i
 cases x with
 | non=>cases r; intro z; cases z
 | bl _=>cases r; intro z; cases z
 | int _=>obtain⟨t,rfl⟩:=r; intro z; cases z
 | str _=>obtain⟨t,rfl⟩:=r; intro z; cases z
 | byt _=>obtain⟨t,rfl⟩:=r; intro z; cases z
 | flt _=>obtain⟨t,rfl⟩:=r; intro z; cases z
 | ref _=>cases r; intro z; cases z
 | ty _=>cases r; intro z; cases z
theorem Zxm {dx dy:D} {x y:V} {v u:Vb} {b:Bool} (r1:Rep X.K H ι dx x) (r2:Rep X.K H ι dy y) (rx:Zcg x v) (ry:Zcg y u) (e:isB dx dy=some b) :
  (u=.none/\b=(v==.none))\/∃ c,u=.bool c/\b=(v==.bool c):=by
 cases dy with
 | non =>
  simp at r2; subst r2; cases ry
  refine .inl ⟨rfl,?_⟩
  cases dx with
  | non=>simp at r1; subst r1; cases rx; cases e; rfl
  | bl _=>simp at r1; subst r1; cases rx; cases e; rfl
  | int _=>simp at r1; subst r1; obtain⟨t,rfl⟩:=rx; cases e; rfl
  | str _=>simp at r1; subst r1; obtain⟨t,rfl⟩:=rx; cases e; rfl
  | ty _=>rw[Rep] at r1; rcases r1 with ⟨_,rfl⟩ | ⟨_,a,rfl,_⟩<;>(cases rx; cases e; rfl)
  | tup _=>obtain⟨a,_,rfl,_⟩:=Zbc.mp r1; cases rx; cases e; rfl
  | fl _=>obtain⟨a,_,rfl,_⟩:=Zgq.mp r1; cases rx; cases e; rfl
  | ref _=>obtain⟨a,rfl,_⟩:=Za0.mp r1; cases rx; cases e; rfl
 | bl c =>
  simp at r2; subst r2; cases ry
  refine .inr ⟨c,rfl,?_⟩
  cases dx with
  | non=>simp at r1; subst r1; cases rx; cases e; rfl
  | bl z=>simp at r1; subst r1; cases rx; cases e; cases z<;>cases c<;>rfl
  | int _=>simp at r1; subst r1; obtain⟨t,rfl⟩:=rx; cases e; rfl
  | str _=>simp at r1; subst r1; obtain⟨t,rfl⟩:=rx; cases e; rfl
  | ty _=>rw[Rep] at r1; rcases r1 with ⟨_,rfl⟩ | ⟨_,a,rfl,_⟩<;>(cases rx; cases e; rfl)
  | tup _=>obtain⟨a,_,rfl,_⟩:=Zbc.mp r1; cases rx; cases e; rfl
  | fl _=>obtain⟨a,_,rfl,_⟩:=Zgq.mp r1; cases rx; cases e; rfl
  | ref _=>obtain⟨a,rfl,_⟩:=Za0.mp r1; cases rx; cases e; rfl
 | _=>simp[isB] at e
theorem Ydy:OpF X (Vr .Is) isD:=by
 rintro pins s σ H x y v u Q I rx ry ⟨ι,dx,dy,Hd,d,Hd',hr,r1,r2,e,q⟩
 obtain⟨b,e1,e⟩:=Zm e
 obtain⟨rfl,rfl⟩:=Wbe.inj e
 have fin:EP X pins σ Q (.bool b) s:=⟨.bl _,H,I,rfl,q _ H ι Le.refl hr (by simp)⟩
 rcases Zxm r1 r2 rx ry e1 with ⟨rfl,rfl⟩ | ⟨c,rfl,rfl⟩
 ·exact is_none_gen fin
 ·exact Zor (Zt7 rx) fin
theorem Zoh:OpF X (Vr .IsNot) Yav:=by
 rintro pins s σ H x y v u Q I rx ry ⟨ι,dx,dy,Hd,d,Hd',hr,r1,r2,e,q⟩
 obtain⟨b,e1,e⟩:=Zm e
 obtain⟨rfl,rfl⟩:=Wbe.inj e
 have fin:EP X pins σ Q (.bool (!b)) s:=⟨.bl _,H,I,rfl,q _ H ι Le.refl hr (by simp)⟩
 rcases Zxm r1 r2 rx ry e1 with ⟨rfl,rfl⟩ | ⟨c,rfl,rfl⟩
 ·exact isnot_none_gen fin
 ·exact Zjo (Zt7 rx) fin
nonrec def tyD:D->HD->Option String
 | .non,_=>some "NoneType"
 | .bl _,_=>some "bool"
 | .int _,_=>some "int"
 | .str _,_=>some "str"
 | .tup _,_=>some "tuple"
 | .fl _,_=>some "list"
 | .ref n,H=>match H[n]? with
  | some (.lst _)=>some "list"
  | _=>none
 | _,_=>none
nonrec def Ztl (c:String):Bool:=c == "bool" || c == "int" || c == "str" || c == "tuple" || c == "list"
nonrec def Zrm:FF:=fun ds H=>match ds with
 | [x,.ty c]=>if Ztl c=true then (tyD x H).map fun t=>(.bl (t==c||(t == "bool" && c == "int")),H) else none
 | _=>none
nonrec def tys:List String:=["NoneType","bool","int","str","tuple","list"]
theorem Zyp {d:D} {t:String} (e:tyD d Hd=some t):t∈tys:=by
 cases d with
 | ref n =>
  simp only[tyD] at e
  split at e
  ·cases e; decide
  ·cases e
 | ty n=>simp[tyD] at e
 | _=>simp only[tyD] at e; cases e; decide
theorem Ydf (K:Xb) {t c:String} (ht:t∈tys) (hc:Ztl c=true):PySem.W.kitOne K (.type t) (.type c)=some (t==c||(t == "bool" && c == "int")):=by
 have hc':c = "bool" \/ c = "int" \/ c = "str" \/ c = "tuple" \/ c = "list" := by
  simpa [Ztl,or_assoc] using hc
 simp only[tys,Xh,Wbs,or_false] at ht
 rcases ht with rfl | rfl | rfl | rfl | rfl | rfl<;>rcases hc' with rfl | rfl | rfl | rfl | rfl<;>first | rfl | (with_unfolding_all rfl) | kernel_rfl
theorem Zui:Zih X (.builtin "isinstance") Zrm:=by
 rintro pins s σ H xs us Q I rv ⟨ι,ds,Hd,d,Hd',hr,P,e,q⟩
 unfold Zrm at e
 split at e
 ·rename_i x c
  split at e
  ·rename_i hc
   obtain⟨t,e1,e⟩:=Zm e
   obtain⟨rfl,rfl⟩:=Wbe.inj e
   obtain⟨v,v',rfl,r,r'⟩:=Ybh P
   obtain⟨u,u',rfl,ru,ru'⟩:=Zwh rv
   have r':=(Zyf (show Zxz c=true from hc)).mp r'
   subst r'
   cases ru'
   have k:=Ydf X.K (Zyp e1) hc
   have fin:∀ tk,EP X pins σ Q (.bool (t==c||(t == "bool" && c == "int"))) { s with toks:=tk }:=fun tk=>⟨.bl _,H,I.tok tk,rfl,q _ H ι Le.refl hr (by simp)⟩
   cases x with
   | non=>simp at r; subst r; cases ru; cases e1; exact Wby PySem.W.kitx_none I.kIn Tay k (fun z=>nomatch z) fin
   | bl y=>simp at r; subst r; cases ru; cases e1; exact Wby PySem.W.kitx_bool I.kIn Tay k (fun z=>nomatch z) fin
   | int y=>simp at r; subst r; obtain⟨t,rfl⟩:=ru; cases e1; exact Wby PySem.W.kitx_int I.kIn Tay k (fun z=>nomatch z) fin
   | str y=>simp at r; subst r; obtain⟨t,rfl⟩:=ru; cases e1; exact Wby PySem.W.kitx_str I.kIn Tay k (fun z=>nomatch z) fin
   | ty _=>simp[tyD] at e1
   | tup ys =>
    obtain⟨a,vs,rfl,h,_⟩:=Zbc.mp r
    cases ru; cases e1
    obtain⟨its,_,⟨o,ho,hcl,_⟩,_⟩:=I.tuple h
    exact Wby PySem.W.kitx_tuple I.kIn ⟨o,ho,hcl⟩ k (fun z=>nomatch z) fin
   | fl ys =>
    obtain⟨a,vs,rfl,h,_⟩:=Zgq.mp r
    cases ru; cases e1
    obtain⟨its,_,pl,_⟩:=I.list h.sq
    obtain⟨o,ho,hcl,_⟩:=pl.isList
    exact Wby Wfj I.kIn ⟨o,ho,hcl⟩ k (fun z=>nomatch z) fin
   | ref n =>
    obtain⟨a,rfl,ha⟩:=Za0.mp r
    cases ru
    simp only[tyD] at e1
    split at e1
    ·rename_i ys eo
     cases e1
     obtain⟨vs,h1,_⟩:=hr.obj n a _ ha eo
     obtain⟨its,_,pl,_⟩:=I.list (SqL.of h1)
     obtain⟨o,ho,hcl,_⟩:=pl.isList
     exact Wby Wfj I.kIn ⟨o,ho,hcl⟩ k (fun z=>nomatch z) fin
    ·cases e1
  ·cases e
 ·cases e
nonrec def Zg3:List D->Option (List Int)
 | []=>some []
 | .int i::r=>(Zg3 r).map fun s=>i::s
 | _=>none
theorem Zm3:∀ {xs ys:List Int},xs.Perm ys->xs.Pairwise (· <= ·)->ys.Pairwise (· <= ·)->xs=ys
 | [],ys,p,_,_=>by simpa using p.symm
 | x::xs,[],p,_,_=>by simpa using p
 | x::xs,y::ys,p,h1,h2=>by
  rw[Wdv] at h1 h2
  have a1:y∈x::xs:=p.symm.subset (by simp)
  have a2:x∈y::ys:=p.subset (by simp)
  have e:x=y:=by
   rcases Xh.mp a1 with z | z
   ·exact z.symm
   ·rcases Xh.mp a2 with w | w
    ·exact w
    ·have:=h1.1 y z
     have:=h2.1 x w
     omega
  subst e
  rw[Zm3 (List.Perm.cons_inv p) h1.2 h2.2]
theorem Zlo {K:Xb}:∀ {xs:List D} {ns:List Int} {vs:List V},Zg3 xs=some ns->Vj (Rep K H ι) xs vs->vs=ns.map V.int
 | [],ns,vs,e,P=>by cases P; cases e; rfl
 | .int i::r,ns,vs,e,P=>by
  simp only[Zg3] at e
  obtain⟨s,e1,rfl⟩:=Zm e
  cases P with
  | cons p P =>
   simp at p
   subst p
   rw[Zlo e1 P]
   rfl
 | .non::_,_,_,e,_=>by simp[Zg3] at e
 | .bl _::_,_,_,e,_=>by simp[Zg3] at e
 | .str _::_,_,_,e,_=>by simp[Zg3] at e
 | .ty _::_,_,_,e,_=>by simp[Zg3] at e
 | .tup _::_,_,_,e,_=>by simp[Zg3] at e
 | .fl _::_,_,_,e,_=>by simp[Zg3] at e
 | .ref _::_,_,_,e,_=>by simp[Zg3] at e
theorem Zmk:∀ {ns:List Int} {us:List Vb},Ubd us ns->Zb8 (ns.map V.int) us:=by
 intro ns us h
 induction h with
 | nil=>exact .nil
 | cons n t _ ih=>exact .cons ⟨t,rfl⟩ ih
theorem Zmu {K:Xb} (ns:List Int):Vj (Rep K H ι) (ns.map D.int) (ns.map V.int):=by
 induction ns with
 | nil=>exact .nil
 | cons n r ih=>exact .cons (by simp) ih
end
section
variable {X:Cx} {tg:Vv}
nonrec def Zi0:D->HD->Option (List D×Zgc)
 | .tup xs,_=>some (xs,[])
 | .fl xs,_=>some (xs,[])
 | .ref n,H=>match H[n]? with
  | some (.lst xs)=>some (xs,[(n,.lst xs)])
  | _=>none
 | _,_=>none
def Zmt (i:Int):Prop := -(2 ^ 62)<=i/\i<2 ^ 62
instance (i:Int):Decidable (Zmt i):=by unfold Zmt; exact inferInstance
nonrec def Zba (lo:Int) (n:Nat):List D:=(Wcp n).map fun k:Nat=>.int (lo+(k:Int))
theorem Zrj {lo:Int} {n i:Nat} {d:D} (h:(Zba lo n)[i]? = some d):i<n/\d=.int (lo+i):=by
 unfold Zba at h
 rw[Xp] at h
 obtain⟨k,h1,rfl⟩:=Zm h
 rw[Xc] at h1
 obtain⟨hl,h1⟩:=h1
 simp at h1 hl
 subst h1
 exact⟨hl,rfl⟩
theorem Zr9 {K:Xb} {H0:Hp} {ι0:List Ve} (lo:Int) (n:Nat):ItRep K (Itr lo n) (Zba lo n) [] H0 ι0:=by
 refine⟨fun i H2 ι2 Hd2 l2 h2 _ hi=>(show i<n by simpa [Zba] using hi),fun i H2 ι2 Hd2 d x H3 l2 h2 _ hd y=>?_,fun i H2 ι2 Hd2 l2 h2 _ hi=>(show n<=i by simpa [Zba] using hi)⟩
 obtain⟨rfl,rfl⟩:=y
 obtain⟨_,rfl⟩:=Zrj hd
 exact⟨ι2,Le.refl,h2,by simp⟩
nonrec def iR1 (f:AF):ItF:=fun σ H=>(f σ H).bind fun p=>match p.1 with
 | [.int j]=>if Zmt j then some ((Zba 0 j.toNat,[]),p.2) else none
 | _=>none
theorem Zrb {a:Vv} {f:AF} {p pos:Pos} (hg:Gl X "range") (hm:X.mg "range" = none) (ha:PAf X [a] f) (hs:Vg [a] X.env=[(false,eval a X.env)]:=by rfl):PIf X tg (.Call (.Name "range" p) [a] [] pos) (iR1 f):=by
 refine PIi (Zrp hg hm ha hs) fun σ H R zz=>?_
 obtain⟨ι,σd,Hd,xs,own,Hd',s,hr,e,q⟩:=zz
 obtain⟨⟨ds,H1⟩,e1,e⟩:=Zo e
 dsimp only at e
 split at e
 ·rename_i j
  split at e
  ·rename_i hj
   cases e
   refine⟨ι,σd,Hd,_,_,s,hr,e1,fun vs H' ι' l h P=>?_⟩
   obtain⟨v,rfl,r⟩:=Zl0 P
   simp at r
   subst r
   exact⟨j,rfl,hj.1,hj.2,q _ H' ι' l h (Zr9 0 _)⟩
  ·cases e
 ·cases e
end
open Builtin.SmallTypes (nextOf)
section
variable {prog:Vh} {w:Vu} {A:Vt} {E:Vb->Vd->Prop} {s:Vd}
theorem Zpj {j t:Ve} {i:Nat} {its:Array Vb} {x:Vb} {Q:Vb->Vd->Prop} (hj:s.heap.IsTupleIter j t i) (ht:s.heap.IsTuple t its) (hx:its[i]? = some x)
  (hQ:∀ h',h'.IsTupleIter j t (i+1)->Xz j s.heap h'->Q x { s with heap:=h' }):Vf (Vm prog w) A (nextOf (.ref j)) Q E s:=by
 obtain⟨oj,ho,hcj,hdj⟩:=id hj
 obtain⟨ot,hot,_,nt,hdt⟩:=ht
 unfold nextOf
 refine Va (Vi (name:=Ua "__next__") hj.typeIs Ut (Vp Ut hj.typeIs Tbb ?_ (Tav _)))
 show Vf _ _ (Udl (.ref j) 0 >>= _) _ _ s
 refine Va (Vn ho hdj (x:=.ref t) rfl ?_)
 show Vf _ _ (if (Uw t==Uq)=true then _ else _) _ _ s
 rw[if_neg (show ¬ ((Uw t==Uq)=true) by intro z; cases z)]
 show Vf _ _ (Udl (.ref j) 1 >>= _) _ _ s
 refine Va (Vn ho hdj (x:=.int i 0) rfl ?_)
 show Vf _ _ (seqItems? (.ref t) >>= _) _ _ s
 refine Va (Uah hot hdt ?_)
 simp only[Wag,hx]
 refine Va (Ubv ho hdj (by simp) (Vc ⟨x,rfl,Vc (hQ _ ⟨_,Wdf _ ho (Tbv (Tao hdj _)),(Tck ..).trans hcj,?_⟩ (Xz.update ..))⟩))
 rw[Tao hdj]; simp[Uaa]
theorem Zt8 {j t:Ve} {i:Nat} {its:Array Vb} {Q:Vb->Vd->Prop} (hh:A.handled=none) (hj:s.heap.IsTupleIter j t i) (ht:s.heap.IsTuple t its) (hx:its[i]? = none)
  (hE:∀ h' e,Wdo j s.heap h'->(∃ o,h'.get? e=some o/\o.cls=.type "StopIteration")->E (.ref e) { s with heap:=h' }):Vf (Vm prog w) A (nextOf (.ref j)) Q E s:=by
 obtain⟨oj,ho,hcj,hdj⟩:=id hj
 obtain⟨ot,hot,_,nt,hdt⟩:=ht
 unfold nextOf
 refine Va (Vi (name:=Ua "__next__") hj.typeIs Ut (Vp Ut hj.typeIs Tbb ?_ (Tav _)))
 show Vf _ _ (Udl (.ref j) 0 >>= _) _ _ s
 refine Va (Vn ho hdj (x:=.ref t) rfl ?_)
 show Vf _ _ (if (Uw t==Uq)=true then _ else _) _ _ s
 rw[if_neg (show ¬ ((Uw t==Uq)=true) by intro z; cases z)]
 show Vf _ _ (Udl (.ref j) 1 >>= _) _ _ s
 refine Va (Vn ho hdj (x:=.int i 0) rfl ?_)
 show Vf _ _ (seqItems? (.ref t) >>= _) _ _ s
 refine Va (Uah hot hdt ?_)
 simp only[Wag,hx]
 refine Va (Ubi (Va (Ubv ho hdj (by simp) ?_)))
 show Vf _ _ (newExc (.type "StopIteration") [] >>= _) _ _ _
 refine Va ?_
 simp only[newExc,newTuple]
 refine Va (Vs ?_ (by size_fits))
 refine Va (m:=Ubw _ _) (Ueg (a:=Uq) (by first | rfl | (simp only[Ubw]; rfl)) (Vs ?_ (by size_fits)))
 simp only[raiseNew]
 refine Va (wpAny_handled ?_)
 first | rw[show A.in1.handled=none from hh] | rw[hh]
 exact Va (Vc (wpAny_throw (hE _ _ (((Xz.update ..).extBut.push _).push _) ⟨_,Xe _ rfl,rfl⟩)))
theorem Zsx {e j t:Ve} {i:Nat} {c:Int} {its:Array Vb} {x old:Vb} {Q:Option Vb->Vd->Prop} (he:Uau s.heap e j c old) (hj:s.heap.IsTupleIter j t i) (ht:s.heap.IsTuple t its) (hx:its[i]? = some x) (hne:e≠j)
  (hQ:∀ h' tk,Ucq h' e j (c+1) x s.heap.objs.size->h'.IsTupleIter j t (i+1)->h'.get? s.heap.objs.size=some { cls:=.type "tuple",data:=.seq #[.int c tk,x] }->h'.objs.size=s.heap.objs.size+1 ->
   (∀ b o,b≠e->b≠j->s.heap.get? b=some o->h'.get? b=some o)->Q (some (.ref s.heap.objs.size)) { s with heap:=h',toks:=s.toks+1 }) :
  Vf (Vm prog w) A (Ubj (.ref e)) Q E s:=by
 have hT:s.TypeIs (.ref e) "enumerate" := ⟨_,he,rfl⟩
 unfold Ubj
 refine Va (Uam (Vi (name:=Ua "__next__") hT Uk (Vp Uk hT Tae ?_ (Tab _))))
 obtain⟨hp,g,d,tk,os⟩:=s
 show Vf _ _ (Udl (.ref e) 2 >>= _) _ _ _
 refine Va (Vn he rfl (x:=.ref j) rfl (Va (Zpj hj ht hx fun h1 j1 s1=>?_)))
 replace s1:Xz j hp h1:=s1
 have e1:Uau h1 e j c old:=(s1.2 e hne).trans he
 show Vf _ _ (Udl (.ref e) 3 >>= _) _ _ ⟨h1,g,d,tk,os⟩
 refine Va (Vn e1 rfl (x:=Uaa c) rfl ?_)
 show Vf _ _ (Udl (.ref e) 4 >>= _) _ _ ⟨h1,g,d,tk,os⟩
 refine Va (Vn e1 rfl (x:=.none) rfl ?_)
 show Vf _ _ (mkInt c >>= _) _ _ ⟨h1,g,d,tk,os⟩
 refine Va (Ueh ?_)
 show Vf _ _ (Udr (.ref e) 3 (Uaa (c+1)) >>= _) _ _ ⟨h1,g,d,tk+1,os⟩
 refine Va (Vk e1 (by simp) fun h2 e2 s2=>?_)
 replace s2:Xz e h1 h2:=s2
 replace e2:Uau h2 e j (c+1) old:=e2
 show Vf _ _ (Udr (.ref e) 4 .none >>= _) _ _ ⟨h2,g,d,tk+1,os⟩
 refine Va (Vk e2 (by simp) fun h3 e3 s3=>?_)
 replace s3:Xz e h2 h3:=s3
 replace e3:Uau h3 e j (c+1) old:=e3
 show Vf _ _ (newTuple [.int c tk,x] >>= _) _ _ ⟨h3,g,d,tk+1,os⟩
 refine Va (Ude ?_)
 have e4:Uau (h3.push { cls:=.type "tuple",data:=.seq #[.int c tk,x] }) e j (c+1) old:=Xa _ e3
 generalize q4:h3.push { cls:=.type "tuple",data:=.seq #[.int c tk,x] }=h4 at e4
 have zz:h3.objs.size=hp.objs.size:=by rw[s3.1,s2.1,s1.1]
 have lt:e<hp.objs.size:=Xf he
 have t4:h4.get? hp.objs.size=some { cls:=.type "tuple",data:=.seq #[.int c tk,x] }:=by rw[<- q4,<- zz]; exact Xe _ rfl
 have z4:h4.objs.size=hp.objs.size+1:=by rw[<- q4,Wao,zz]
 have k4:∀ b o,b≠e->b≠j->hp.get? b=some o->h4.get? b=some o:=fun b o n1 n2 q=>by
  rw[<- q4]; exact Xa _ (s3.extBut b o n1 (s2.extBut b o n1 (s1.extBut b o n2 q)))
 have j4:h4.IsTupleIter j t (i+1):=by
  obtain⟨o,ho,r⟩:=id j1
  exact⟨o,by rw[<- q4]; exact Xa _ (s3.extBut j o (Uo hne) (s2.extBut j o (Uo hne) ho)),r⟩
 show Vf _ _ (Uc (.ref e) >>= _) _ _ ⟨h4,g,d,tk+1,os⟩
 rw[zz]
 clear q4 e3 s3 e2 s2 e1 s1 j1 zz h3 h2 h1
 refine Va ?_
 unfold Uc
 refine Va (Vn e4 rfl (x:=.none) rfl (Vc ?_))
 simp only[if_true]
 refine Va (Ubi (Va (Vn e4 rfl (x:=old) rfl (Va (Vk e4 (by simp) fun h5 e5 s5=>?_)))))
 replace s5:Xz e h4 h5:=s5
 replace e5:Uau h5 e j (c+1) x:=e5
 show Vf _ _ (Ud (.ref e) (.ref hp.objs.size) >>= _) _ _ ⟨h5,g,d,tk+1,os⟩
 refine Va ?_
 unfold Ud
 refine Va (Vk e5 (by simp) fun h6 e6 s6=>?_)
 replace s6:Xz e h5 h6:=s6
 replace e6:Ucq h6 e j (c+1) x hp.objs.size:=e6
 refine Vk e6 (by simp) fun h7 e7 s7=>?_
 replace s7:Xz e h6 h7:=s7
 replace e7:Ucq h7 e j (c+1) x hp.objs.size:=e7
 have up:∀ b o,b≠e->h4.get? b=some o->h7.get? b=some o:=fun b o n q=>s7.extBut b o n (s6.extBut b o n (s5.extBut b o n q))
 refine Va (Ubp (Vc ⟨_,rfl,Vc (hQ h7 tk e7 ?_ (up _ _ (Wbr lt) t4) (by rw[s7.1,s6.1,s5.1,z4]) fun b o n1 n2 q=>up b o n1 (k4 b o n1 n2 q))⟩))
 obtain⟨o,ho,r⟩:=id j4
 exact⟨o,up j o (Uo hne) ho,r⟩
theorem Zsj {e j t:Ve} {i:Nat} {c:Int} {its:Array Vb} {old:Vb} {Q:Option Vb->Vd->Prop} (hh:A.handled=none) (he:Uau s.heap e j c old) (hj:s.heap.IsTupleIter j t i) (ht:s.heap.IsTuple t its) (hx:its[i]? = none)
  (hQ:∀ h',Wdo j s.heap h'->Q none { s with heap:=h' }):Vf (Vm prog w) A (Ubj (.ref e)) Q E s:=by
 have hT:s.TypeIs (.ref e) "enumerate" := ⟨_,he,rfl⟩
 unfold Ubj
 refine Va (Uam (Vi (name:=Ua "__next__") hT Uk (Vp Uk hT Tae ?_ (Tab _))))
 show Vf _ _ (Udl (.ref e) 2 >>= _) _ _ _
 refine Va (Vn he rfl (x:=.ref j) rfl (Va (Zt8 hh hj ht hx fun h' z he' zz=>?_)))
 obtain⟨o,ho,hc⟩:=zz
 exact Va (Ubk (T := "StopIteration") (b:=true) ⟨o,ho,hc⟩ Ubx (Vc (hQ _ he')))
open AutoSeq1 (wpAny_loadPart') in
theorem Zsh (t:Ve) (its:Array Vb) (n:Nat) (dct:Option Ve) (sl:Array (Option Vb)) :
  Uek (Builtin.«enumerate.__new__» ⟨[.type "enumerate",.ref t],[]⟩) (fun _ R s=>s.heap.get? t=some { cls:=.type "tuple",dict:=dct,data:=.seq its n,slots:=sl } /\
   R (.ok (.ret (.ref (s.heap.push { cls:=.type "tuple_iterator",data:=.fields #[.ref t,.int 0 0] }).objs.size)))
    { s with heap:=(s.heap.push { cls:=.type "tuple_iterator",data:=.fields #[.ref t,.int 0 0] }).push { cls:=.type "enumerate",data:=.fields #[.none,.bool false,.ref s.heap.objs.size,Uaa 0,.none,.none] } }) :=
 .of_wp fun prog w A R s h=>by
  obtain⟨hp,g,d,tk,os⟩:=s; obtain⟨hl,h⟩:=h
  have hsub:=Uds
  have hL:Heap.IsTuple (Tbq ⟨hp,g,d,tk,os⟩) t its:=⟨_,hl,rfl,n,rfl⟩
  wp_walk using Vo hl
  refine Ucr fun st=>Vc ?_
  split
  ·rename_i k _ _ _ _ _
   cases (k==Tbn "enumerate")<;>(wp_walk using Vo hl,Uag hL; exact⟨_,rfl,h⟩)
  ·wp_walk using Vo hl,Uag hL
   exact⟨_,rfl,h⟩
theorem Zqy {t:Ve} {its:Array Vb} {Q:Vb->Vd->Prop} (hL:s.heap.IsTuple t its)
  (h:∀ h',Uau h' (s.heap.objs.size+1) s.heap.objs.size 0 .none->h'.IsTupleIter s.heap.objs.size t 0->h'.objs.size=s.heap.objs.size+2 ->
   (∀ b o,s.heap.get? b=some o->h'.get? b=some o)->Q (.ref (s.heap.objs.size+1)) { s with heap:=h' }) :
  Vf (Vm prog w) A (call (.type "enumerate") [.ref t]) Q E s:=by
 obtain⟨⟨k,dct,dt,sl⟩,hl,hc,n,hd⟩:=hL
 replace hc:k=.type "tuple" := hc
 replace hd:dt=.seq its n:=hd
 subst hc hd
 refine Udx Taf (by decide) (Tbu _) (Tbw _) (fun obj=>Tcd obj _) Taq (Zsh t its n dct sl) ⟨hl,?_⟩
 have hz:(s.heap.push { cls:=.type "tuple_iterator",data:=.fields #[.ref t,.int 0 0] }).objs.size=s.heap.objs.size+1:=Wao ..
 show _/\_
 rw[hz]
 have he:Uau ((s.heap.push { cls:=.type "tuple_iterator",data:=.fields #[.ref t,.int 0 0] }).push { cls:=.type "enumerate",data:=.fields #[.none,.bool false,.ref s.heap.objs.size,Uaa 0,.none,.none] }) (s.heap.objs.size+1) s.heap.objs.size 0 .none:=by
  have q:=Xe (s.heap.push { cls:=.type "tuple_iterator",data:=.fields #[.ref t,.int 0 0] }) (o:={ cls:=.type "enumerate",data:=.fields #[.none,.bool false,.ref s.heap.objs.size,Uaa 0,.none,.none] }) rfl
  rw[hz] at q; exact q
 exact⟨⟨_,he,rfl⟩,h _ he ⟨_,Xa _ (Xe _ rfl),rfl,rfl⟩ (by rw[Wao,hz]) fun b o x=>Xa _ (Xa _ x)⟩
end
nonrec def Yaq (K:Xb) (c:Int) (a:Ve):It :=
 ⟨fun i H=>∃ xs x,SqT K H a xs/\xs[i]? = some x,fun i H v H'=>∃ p x,H p=none/\v=.ref p/\H'=upd H p (.tup [.int (c+i),x])/\∀ xs,SqT K H a xs->xs[i]? = some x,fun i H=>∃ xs,SqT K H a xs/\xs.length<=i⟩
theorem Zj6 {P:Vh} {w:Vu} {K:Xb} {es:List Vv} {k:Nat} {pos:Pos} (a e j:Ve) (c:Int) (hne:e≠j):Turn P w K (.Tuple es k pos) (Yaq K c a) [e,j] e (fun i h=>∃ old,Uau h e j (c+i) old/\h.IsTupleIter j a i) where
 mem:=by simp
 obj:=fun i h st b hb=>by
  obtain⟨old,he,o,ho,hc,hd⟩:=st
  rcases Xh.mp hb with rfl | hb
  ·exact⟨_,he,fun v z=>by cases z⟩
  ·have:b=j:=by simpa using hb
   subst this
   exact⟨o,ho,fun v z=>by rw[hd] at z; cases z⟩
 keep:=fun i h h' st kk=>by
  obtain⟨old,he,o,ho,r⟩:=st
  exact⟨old,kk e (by simp) _ he,o,kk j (by simp) o ho,r⟩
 item:=by
  intro X hP hw hK hc i pins s σ H E I hf st hg
  subst hP hw hK
  obtain⟨xs,x,hq,hx⟩:=hg
  obtain⟨old,he,hj⟩:=st
  obtain⟨its,rv,p,hz⟩:=I.tuple hq
  obtain⟨u,hu,ru⟩:=rv.get hx
  have fe:=hf e (by simp)
  have fj:=hf j (by simp)
  refine Zsx he hj (show s.heap.IsTuple a its.toArray from p) (x:=u) (by simpa using hu) hne fun h' tk eo j' t' z' kk=>?_
  refine⟨_,rfl,Ubr (s:={ s with heap:=h',toks:=s.toks+1 }) eo fun h2 e2 s2=>?_⟩
  replace s2:Xz e h' h2:=s2
  have le:e<s.heap.objs.size:=Xf he
  have ne2:s.heap.objs.size≠e:=Wbr le
  -- the iterator's two records have turned, the pair is new
  have t2:h2.get? s.heap.objs.size=some { cls:=.type "tuple",data:=.seq #[.int (c+i) tk,u] }:=s2.extBut _ _ ne2 t'
  have hp0:H s.heap.objs.size=none:=I.hok.fresh (Xd _)
  have up:∀ b o,b∉[e,j]->s.heap.get? b=some o->h2.get? b=some o:=fun b o hb q =>
   s2.extBut b o (fun z=>hb (by simp[z])) (kk b o (fun z=>hb (by simp[z])) (fun z=>hb (by simp[z])) q)
  have I2:Inv X pins σ (upd H s.heap.objs.size (.tup [.int (c+i),x])) { s with heap:=h2,toks:=s.toks+1 }:=by
   refine I.step (g':=s.gens) (d':=s.drawn) (t':=s.toks+1) (ch:=[e,j]) (fun b hb=>?_) (fun b o _ _ hb q n=>up b o hb q) (fun b o _ _ hb q n=>⟨o.slots,up b o hb q⟩) (fun b o _ q n=>?_) (fun b o hb q=>⟨o,up b o hb q⟩) (fun b ys q=>?_) (fun b o y q=>?_) (fun b ps q=>⟨#[],?_⟩) (fun m hm=>?_) (fun b o q=>?_) I.bare
   ·have:=hf b hb; exact⟨this.2.2.2.1,this.2.1,this.2.2.2.2.1,this.2.2.2.2.2⟩
   ·rw[Zah (Xi (Xf q))]; exact n
   ·rw[Zah (Zai q hp0)]; exact q
   ·rw[Zah (Zai q hp0)]; exact q
   ·rw[Zah (Zai q hp0),q]; simp
   ·obtain⟨o,es',ep,ho,r⟩:=hm
    exact⟨o,es',ep,s2.extBut _ o (Uo fe.2.1) (kk _ o (Uo fe.2.1) (Uo fj.2.1) ho),r⟩
   ·by_cases hb:b=s.heap.objs.size
    ·subst hb
     rw[Zaq] at q
     cases q
     exact⟨(by show 2<=sizeLine; decide),[.int (c+i) tk,u],.cons ⟨tk,rfl⟩ (.cons ru .nil),_,t2,rfl,⟨_,rfl⟩,rfl⟩
    ·rw[Zah hb] at q
     refine(I.hok b o q).stay (fun d v hd z=>up d v (fun hm=>?_) z) (fun d z=>by rw[Zah (Zai z hp0)]; exact z) fun d ys z=>by rw[Zah (Zai z hp0)]; exact z
     have:H d≠none:=by
      rcases hd with rfl | hd
      ·rw[q]; simp
      ·rw[hd]; simp
     exact this (hf d hm).1
  refine⟨.ref s.heap.objs.size,_,I2,rfl,⟨_,x,hp0,rfl,rfl,fun ys hy=>by rw[I.tuple_inj hy hq]; exact hx⟩,?_,fun b hb=>?_⟩
  ·obtain⟨o,ho,r⟩:=id j'
   have ec:c+((i+1:Nat):Int)=c+(i:Int)+1:=by push_cast; omega
   exact⟨u,by rw[ec]; exact e2,o,s2.extBut j o (Uo hne) ho,r⟩
  ·have hb2:b≠s.heap.objs.size:=by
    rcases Xh.mp hb with rfl | hb
    ·exact Xi le
    ·have:b=j:=by simpa using hb
     subst this
     obtain⟨o,ho,_⟩:=id hj
     exact Xi (Xf ho)
   rw[Zah hb2]; exact(hf b hb).1
 done:=by
  intro X hP hw hK hc i pins s σ H E I hf st hg
  subst hP hw hK
  obtain⟨xs,hq,hx⟩:=hg
  obtain⟨old,he,hj⟩:=st
  obtain⟨its,rv,p,hz⟩:=I.tuple hq
  obtain⟨f0,f1,f2,f3,f4,f5⟩:=hf j (by simp)
  have hl:=rv.length
  exact Zsj (I.ok.hd hc) he hj (show s.heap.IsTuple a its.toArray from p) (by simp; omega) fun h' eb=>⟨rfl,I.turned (t':=s.toks) (fun b o hb q=>eb b o hb q) f0 f1 f3 f4 f5⟩
 self:=fun _ _ _ _ _ st h=>by
  obtain⟨old,he,_⟩:=st
  exact Uar he h
section
variable {X:Cx}
nonrec def Zcs (c:Int):List D->List D
 | []=>[]
 | x::r=>.tup [.int c,x]::Zcs (c+1) r
theorem Ze5:∀ (xs:List D) (c:Int),(Zcs c xs).length=xs.length
 | [],_=>rfl
 | x::r,c=>by simp[Zcs,Ze5 r]
theorem Ziq:∀ {xs:List D} {c:Int} {i:Nat} {d:D},(Zcs c xs)[i]? = some d->∃ x,xs[i]? = some x/\d=.tup [.int (c+i),x]
 | [],c,i,d,h=>by simp[Zcs] at h
 | x::r,c,0,d,h=>by simp[Zcs] at h; exact⟨x,rfl,by rw[<- h]; simp⟩
 | x::r,c,i+1,d,h=>by
  simp only[Zcs,Wca] at h
  obtain⟨y,h1,h2⟩:=Ziq h
  refine⟨y,by simpa using h1,?_⟩
  rw[h2]
  have:c+1+(i:Int)=c+((i+1:Nat):Int):=by push_cast; omega
  rw[this]
theorem Zpo {K:Xb} {H0:Hp} {ι0:List Ve} {a:Ve} {c:Int} {xs:List D} {vs:List V} (hS:SqT K H0 a vs) (P:Vj (Rep K H0 ι0) xs vs)
  (inj:∀ (i:Nat) (H:Hp) (x:V),(∀ ys,SqT K H a ys->ys[i]? = some x)->SqT K H a vs->vs[i]? = some x):ItRep K (Yaq K c a) (Zcs c xs) [] H0 ι0:=by
 refine⟨fun i H2 ι2 Hd2 l2 h2 _ hi=>?_,fun i H2 ι2 Hd2 d v H3 l2 h2 _ hd y=>?_,fun i H2 ι2 Hd2 l2 h2 _ hi=>⟨vs,l2.tup a vs hS,by rw[<- Prd.len P,<- Ze5 xs c]; exact hi⟩⟩
 ·exact⟨vs,vs[i]'(by rw[<- Prd.len P,<- Ze5 xs c]; exact hi),l2.tup a vs hS,by simp⟩
 ·obtain⟨p,x,hp,rfl,rfl,y⟩:=y
  obtain⟨x',hx',rfl⟩:=Ziq hd
  obtain⟨u,hu,ru⟩:=Prd.get P hx'
  have:=y vs (l2.tup a vs hS)
  rw[hu] at this
  cases this
  refine⟨ι2,Le.fresh hp _,h2.tup hp _,Zbc.mpr ⟨p,_,rfl,SqT.of Zaq,.cons (by simp) (.cons ((ru.mono l2).mono (Le.fresh hp _)) .nil)⟩⟩
nonrec def Znu (f:AF):ItF:=fun σ H=>(f σ H).bind fun p=>match p.1 with
 | [.tup xs]=>some ((Zcs 0 xs,[]),p.2)
 | _=>none
theorem Zpv {es:List Vv} {k:Nat} {tp p pos:Pos} {a:Vv} {f:AF} (hg:Gl X "enumerate") (hm:X.mg "enumerate" = none) (ha:PAf X [a] f) (hs:Vg [a] X.env=[(false,eval a X.env)]:=by rfl):PIf X (.Tuple es k tp) (.Call (.Name "enumerate" p) [a] [] pos) (Znu f):=by
 rintro pins s σ H R I ⟨ι,σd,Hd,xs,own,Hd',sr,hr,e,q⟩
 obtain⟨⟨ds,H1⟩,e1,e⟩:=Zo e
 dsimp only at e
 split at e
 ·rename_i ys
  cases e
  refine Call_ (Zec I hg hm Udf (Ui (thn (ha pos pins s σ H (fun vs H'=>∃ a ws,vs=[.ref a]/\SqT X.K H' a ws/\∀ (J:It) (H2:Hp),H2=H'->J=Yaq X.K 0 a->R J H2) I ⟨ι,σd,Hd,_,_,sr,hr,e1,fun vs H' ι' l h P=>?_⟩) fun us s1 ⟨vs,H2,I2,r2,q2⟩=>?_) hs rfl))
  ·obtain⟨v,rfl,r⟩:=Zl0 P
   obtain⟨ad,ws,rfl,hS,P2⟩:=Zbc.mp r
   refine⟨ad,ws,rfl,hS,fun J H2 e2 e3=>?_⟩
   subst e2 e3
   exact q _ _ ι' l h (Zpo hS P2 fun i H x y h=>y ws h)
  ·obtain⟨ad,ws,rfl,hS,q2⟩:=q2
   obtain⟨u,rfl,ru⟩:=Zhp r2
   cases ru
   obtain⟨its,rv,p,hz⟩:=I2.tuple hS
   refine Zqy (show s1.heap.IsTuple ad its.toArray from p) fun h' he hj z' kk=>?_
   have I3:Inv X pins σ H2 { s1 with heap:=h' }:=I2.kept (t':=s1.toks) kk
   refine Uar (s:={ s1 with heap:=h' }) he ?_
   have ne:s1.heap.objs.size+1≠s1.heap.objs.size:=Weg _
   refine⟨s1.heap.objs.size+1,[s1.heap.objs.size+1,s1.heap.objs.size],_,Yaq X.K 0 ad,H2,rfl,I3,Zj6 ad _ _ 0 ne,⟨.none,by simpa using he,hj⟩,fun b hb=>?_,q2 _ _ rfl rfl⟩
   have:s1.heap.objs.size<=b:=by
    rcases Xh.mp hb with rfl | hb
    ·exact Wdp _
    ·have:b=s1.heap.objs.size:=by simpa using hb
     rw[this]; exact Xd _
   have fp:=I2.fpOk (b:=b) (H':=H2) this (I2.hok.fresh this)
   exact fp
 ·cases e
theorem Zvv {pins:List (Ve×Obj)} {σ:L2.St} {H:Hp} {s:Vd} {ch:List Ve} {h2:Vz} {tk:Nat} {vs:List V} {us:List Vb} {n:Nat} (I:Inv X pins σ H s) (hf:∀ b∈ch,Zko X pins H b)
  (up:∀ b o,b∉ch->s.heap.get? b=some o->h2.get? b=some o) (t2:h2.get? s.heap.objs.size=some { cls:=.type "tuple",data:=.seq us.toArray n }) (r:Zb8 vs us) (hz:vs.length<=sizeLine) :
  Inv X pins σ (upd H s.heap.objs.size (.tup vs)) { s with heap:=h2,toks:=tk }:=by
 have hp0:H s.heap.objs.size=none:=I.hok.fresh (Xd _)
 refine I.step (g':=s.gens) (d':=s.drawn) (t':=tk) (ch:=ch) (fun b hb=>?_) (fun b o _ _ hb q n=>up b o hb q) (fun b o _ _ hb q n=>⟨o.slots,up b o hb q⟩) (fun b o _ q n=>?_) (fun b o hb q=>⟨o,up b o hb q⟩) (fun b ys q=>?_) (fun b o y q=>?_) (fun b ps q=>⟨#[],?_⟩) (fun m hm=>?_) (fun b o q=>?_) I.bare
 ·have:=hf b hb; exact⟨this.2.2.2.1,this.2.1,this.2.2.2.2.1,this.2.2.2.2.2⟩
 ·rw[Zah (Xi (Xf q))]; exact n
 ·rw[Zah (Zai q hp0)]; exact q
 ·rw[Zah (Zai q hp0)]; exact q
 ·rw[Zah (Zai q hp0),q]; simp
 ·obtain⟨o,es',ep,ho,r⟩:=hm
  exact⟨o,es',ep,up _ o (fun z=>(hf _ z).2.1 rfl) ho,r⟩
 ·by_cases hb:b=s.heap.objs.size
  ·subst hb
   rw[Zaq] at q
   cases q
   exact⟨hz,us,r,_,t2,rfl,⟨_,rfl⟩,rfl⟩
  ·rw[Zah hb] at q
   refine(I.hok b o q).stay (fun d v hd z=>up d v (fun hm=>?_) z) (fun d z=>by rw[Zah (Zai z hp0)]; exact z) fun d ys z=>by rw[Zah (Zai z hp0)]; exact z
   have:H d≠none:=by
    rcases hd with rfl | hd
    ·rw[q]; simp
    ·rw[hd]; simp
   exact this (hf d hm).1
theorem Zwz {pins:List (Ve×Obj)} {σ:L2.St} {H:Hp} {s:Vd} {ch:List Ve} {h2:Vz} {tk:Nat} (I:Inv X pins σ H s) (hf:∀ b∈ch,Zko X pins H b)
  (up:∀ b o,b∉ch->s.heap.get? b=some o->h2.get? b=some o):Inv X pins σ H { s with heap:=h2,toks:=tk }:=by
 refine I.step (g':=s.gens) (d':=s.drawn) (t':=tk) (ch:=ch) (fun b hb=>?_) (fun b o _ _ hb q n=>up b o hb q) (fun b o _ _ hb q n=>⟨o.slots,up b o hb q⟩) (fun b o _ q n=>n) (fun b o hb q=>⟨o,up b o hb q⟩) (fun b ys q=>q) (fun b o y q=>q) (fun b ps q=>⟨#[],by rw[q]; simp⟩) (fun m hm=>?_) (fun b o q=>?_) I.bare
 ·have:=hf b hb; exact⟨this.2.2.2.1,this.2.1,this.2.2.2.2.1,this.2.2.2.2.2⟩
 ·obtain⟨o,es',ep,ho,r⟩:=hm
  exact⟨o,es',ep,up _ o (fun z=>(hf _ z).2.1 rfl) ho,r⟩
 ·refine(I.hok b o q).stay (fun d v hd z=>up d v (fun hm=>?_) z) (fun d z=>z) fun d ys z=>z
  have:H d≠none:=by
   rcases hd with rfl | hd
   ·rw[q]; simp
   ·rw[hd]; simp
  exact this (hf d hm).1
end
structure Five (z a b c d:Ve):Prop where
 az:a≠z
 bz:b≠z
 cz:c≠z
 dz:d≠z
 ab:a≠b
 ac:a≠c
 ad:a≠d
 bc:b≠c
 bd:b≠d
 cd:c≠d
section
variable {X:Cx}
nonrec def Zrl:List D->List D->List D
 | x::xs,y::ys=>.tup [x,y]::Zrl xs ys
 | _,_=>[]
theorem Zk0:∀ (xs ys:List D),(Zrl xs ys).length=min xs.length ys.length
 | [],_=>by simp[Zrl]
 | _::_,[]=>by simp[Zrl]
 | x::xs,y::ys=>by simp[Zrl,Zk0 xs ys]
theorem Zp1:∀ {xs ys:List D} {i:Nat} {d:D},(Zrl xs ys)[i]? = some d->∃ x y,xs[i]? = some x/\ys[i]? = some y/\d=.tup [x,y]
 | [],_,i,d,h=>by simp[Zrl] at h
 | _::_,[],i,d,h=>by simp[Zrl] at h
 | x::xs,y::ys,0,d,h=>by simp[Zrl] at h; exact⟨x,y,rfl,rfl,h.symm⟩
 | x::xs,y::ys,i+1,d,h=>by
  simp only[Zrl,Wca] at h
  obtain⟨u,v,h1,h2,h3⟩:=Zp1 h
  exact⟨u,v,by simpa using h1,by simpa using h2,h3⟩
nonrec def It3 (lo c:Int) (n:Nat):It:=⟨fun i _=>i<n,fun i H x H'=>H'=H/\x=.int (lo+i*c),fun i _=>n<=i⟩
theorem Zot {P:Vh} {w:Vu} {K:Xb} {tg:Vv} (it:Ve) (lo c:Int) (n:Nat):Turn P w K tg (It3 lo c n) [it] it (fun i h=>Udj h it (lo+(i:Nat)*c) ((n:Int) - (i:Nat)) c) where
 mem:=by simp
 obj:=fun i h st b hb=>by
  have e:b=it:=by simpa using hb
  subst e
  exact⟨_,st,fun v z=>by
   have z':Data.fields _=Data.cell v:=z
   cases z'⟩
 keep:=fun i h h' st k=>k it (by simp) _ st
 item:=by
  intro X hP hw hK hc i pins s σ H E I hf st hg
  subst hP hw hK
  obtain⟨f0,f1,f2,f3,f4,f5⟩:=hf it (by simp)
  have W:=Walks.range (prog:=X.prog) (w:=X.w) (I.ok.hd hc) it lo c n
  refine W.item i s _ _ hg st fun v h' tk hv st' kk=>?_
  obtain⟨t,rfl⟩:=hv
  have I1:Inv X pins σ H { s with heap:=h',toks:=tk }:=I.turned (fun b o hb e=>kk b o (by simpa using hb) e) f0 f1 f3 f4 f5
  exact⟨_,rfl,Zup (s:={ s with heap:=h',toks:=tk }) (n := "range_iterator") st' rfl rfl (by decide) ⟨.int (lo+i*c),H,I1,⟨t,rfl⟩,⟨rfl,rfl⟩,st',fun b hb=>(hf b hb).1⟩⟩
 done:=by
  intro X hP hw hK hc i pins s σ H E I hf st hg
  subst hP hw hK
  obtain⟨f0,f1,f2,f3,f4,f5⟩:=hf it (by simp)
  exact Ucd (I.ok.hd hc) st (by have:n<=i:=hg; omega) fun h' eb=>⟨rfl,I.turned (t':=s.toks) (fun b o hb e=>eb b o hb e) f0 f1 f3 f4 f5⟩
 self:=fun _ _ _ _ _ st h=>Uce st h
nonrec def Zf9 (lo c:Int) (n:Nat):List D:=(Wcp n).map fun k:Nat=>.int (lo+(k:Int)*c)
end
structure Fn (P:Vh) (w:Vu) (K:Xb) (mg:Str->Option Vb) (base:Vz) (k:Nat) (x:Str) (ps:List Str) (F:FF):Prop where
 ex:∃ f fd,FnOk P w K mg base CX0 k f fd ps (spF K ps.length F)/\Znx K fd ps []/\Wcd K (.ref f)=true/\mg x=some (.ref f)/\∃ (oc:Vb) (od:Option Ve) (osl:Array (Option Vb)),K.lookup f=some ⟨oc,od,.func fd,osl⟩
theorem Zan {X:Cx} {k n:Nat} {ps:List Str} {x:Str} {p pos:Pos} {F:FF} {fa:AF} {e:Vv} {es:List Vv} (G:Fn X.prog X.w X.K X.mg X.base k x ps F) (hr:Room k X.A) (hg:Gl X x)
  (ha:PAf X (e::es) fa) (hdb:(x==("__debug__" : Str))=false:=by decide) (he:Vg (e::es) X.env=(false,eval e X.env)::Vg es X.env:=by exact Zb3 rfl) (hpl:(Ual pos (Vg es X.env)).any (·.1)=false:=by exact Zc2 rfl) (hn:ps.length=n:=by rfl) :
  PEf X (.Call (.Name x p) (e::es) [] pos) (Zal n F fa):=by
 subst hn
 obtain⟨f,fd,G1,hb,hk,hm,_⟩:=G.ex
 exact Zvq G1 hr hg hm hk hb ha hdb he hpl
def Tf (K:Xb) (mg:Str->Option Vb) (x:Str) (st:Uae):Prop:=∃ f fd,Fun K x x st f fd/\mg x=some (.ref f)
theorem us0 {us:List Vb} (h:us.length=0):us=[]:=Wcv.mp h
theorem us1 {us:List Vb} (h:us.length=1):∃ a,us=[a]:=by
 obtain⟨a,r⟩:=Wah h
 obtain⟨t,rfl⟩:=r
 rw[us0 (us:=t) (by simpa using h)]
 exact⟨a,rfl⟩
theorem us2 {us:List Vb} (h:us.length=2):∃ a b,us=[a,b]:=by
 obtain⟨a,t,rfl⟩:=Wah h
 obtain⟨b,rfl⟩:=us1 (us:=t) (by simpa using h)
 exact⟨a,b,rfl⟩
theorem us3 {us:List Vb} (h:us.length=3):∃ a b c,us=[a,b,c]:=by
 obtain⟨a,t,rfl⟩:=Wah h
 obtain⟨b,c,rfl⟩:=us2 (us:=t) (by simpa using h)
 exact⟨a,b,c,rfl⟩
theorem us4 {us:List Vb} (h:us.length=4):∃ a b c d,us=[a,b,c,d]:=by
 obtain⟨a,t,rfl⟩:=Wah h
 obtain⟨b,c,d,rfl⟩:=us3 (us:=t) (by simpa using h)
 exact⟨a,b,c,d,rfl⟩
theorem us5 {us:List Vb} (h:us.length=5):∃ a b c d e,us=[a,b,c,d,e]:=by
 obtain⟨a,t,rfl⟩:=Wah h
 obtain⟨b,c,d,e,rfl⟩:=us4 (us:=t) (by simpa using h)
 exact⟨a,b,c,d,e,rfl⟩
theorem tf_mk {K:Xb} {h:Vz} {mg:Str->Option Vb} {x:Str} {st:Uae} {f:Ve} {oc:Vb} {od an:Option Ve} {osl:Array (Option Vb)} {kV doc pm cdv ct:Vb} (X:K.In h) (G:h.Ns Vl mg)
  (a:Wcq K Vl x=some (some (.ref f))) (l:K.lookup f=some ⟨oc,od,.func (Wbc x x (Zck st) (Za7 st) (Zad st) .none kV doc pm an cdv ct),osl⟩)
  (c:Wcn K cdv x=true) (k:Wcd K (.ref f)=true):Tf K mg x st:=⟨f,_,Zxi l c k,Wfd X G a⟩
theorem Zbi {P:Vh} {w:Vu} {K:Xb} {mg:Str->Option Vb} {base:Vz} {x:Str} {st:Uae} {N ps:List Str} {k:Nat} {b:SF} (T:Tf K mg x st) (S:FnScope N ps (Zad st))
  (hbd:∀ (kV doc pm:Vb) (an:Option Ve) (cdv ct:Vb) (us:List Vb),us.length=ps.length->Uby (Wbc x x (Zck st) (Za7 st) (Zad st) .none kV doc pm an cdv ct) ⟨us,[]⟩=pure (ps.zip us))
  (hb:∀ (f:Ve) (cdv:Vb) (A:Vt) (outer:List Env) (s:Vd) (H:Hp) (E:XK),Room k (A.deeper (Ubc x (Zad st) s.heap.objs.size f cdv)) ->
   Znr (Zln CX0 P w K mg base N x (Zad st) f cdv A outer s H E).nox (Za7 st) b):Fn P w K mg base (k+1) x ps (Zbd ps.length N.length b):=by
 obtain⟨f,fd,F,hm⟩:=T
 refine⟨f,fd,fn_f F S fun cdv A outer s H E hr=>hb f cdv A outer s H E hr,F.binds hbd,F.kp,hm,?_⟩
 obtain⟨oc,od,kV,doc,pm,an,cdv,ct,osl,rfl,lk,hcd⟩:=F.ex
 exact⟨oc,od,osl,lk⟩
nonrec def blkB (sc scope:Ubm) (N:List Str) (x:Str) (cn:List Str) (ci:List Nat):Bool :=
 (scope.kind==.function)&&scope.names.all (fun y=>y.2 != .cell)&&scope.names.all (fun y=>y.2 != .local||scope.names.lookup y.1==some .local)&&(scope.names.lookup x==some .local) &&
 scope.names.all (fun y=>y.2 != .free||sc.names.lookup y.1==some .cell)&&decide (x::cn).Nodup&&(ci.length==cn.length) &&
 (cn.zip ci).all (fun p=>N[p.2]? == some p.1&&scope.names.lookup p.1==some .free&&sc.names.lookup p.1==some .cell)
theorem Zfh {P:Vh} {w:Vu} {K:Xb} {mg:Str->Option Vb} {base:Vz} {N:List Str} {qual:Str} {sc scope:Ubm} {f:Ve} {cdv:Vb} {A:Vt} {outer:List Env} {s:Vd} {H:Hp} {E:XK} {x:Str} {cn:List Str} {ci:List Nat}
  (h:blkB sc scope N x cn ci=true):BlkOk (Zln CX0 P w K mg base N qual sc f cdv A outer s H E).nox scope x cn ci:=by
 unfold blkB at h
 simp only[Wam,Wab,Weo,bne_iff_ne,ne_eq,beq_iff_eq,decide_eq_true_eq] at h
 obtain⟨⟨⟨⟨⟨⟨⟨h1,h2⟩,h3⟩,h4⟩,h5⟩,h6⟩,h7⟩,h8⟩:=h
 refine⟨h1,fun y hy=>h2 y hy,fun y hy hl=>(h3 y hy).resolve_left fun z=>z hl,h4,fun y hy hf=>?_,h6,h7,fun j y hj=>?_⟩
 ·have:=(h5 y hy).resolve_left fun z=>z hf
  obtain⟨c,hc⟩:=Zh4 (n:=s.heap.objs.size+1) this
  exact Waj.mpr ⟨c,hc⟩
 ·have hl:j<ci.length:=by rw[h7]; exact(Xc.mp hj).1
  have hm:(y,ci[j])∈cn.zip ci:=by
   refine Wbn.mpr ⟨j,?_⟩
   rw[Wdy]
   exact⟨hj,by simp[hl]⟩
  obtain⟨⟨k1,k2⟩,k3⟩:=h8 _ hm
  exact⟨ci[j],by simp[hl],k1,k2,.inl k3⟩
theorem Zm1:Vq "len" = some (.builtin "len"):=by decide +kernel
theorem Zsd:Vq "abs" = some (.builtin "abs"):=by decide +kernel
theorem Zx5:Vq "max" = some (.builtin "max"):=by decide +kernel
theorem Zmh:Vq "sorted" = some (.builtin "sorted"):=by decide +kernel
theorem Zkq:Vq "isinstance" = some (.builtin "isinstance"):=by decide +kernel
theorem Yb3:Vq "all" = some (.builtin "all"):=by decide +kernel
theorem Zuu:Vq "int" = some (.type "int"):=by decide +kernel
theorem Zk6:Vq "tuple" = some (.type "tuple"):=by decide +kernel
theorem Zyz:Vq "list" = some (.type "list"):=by decide +kernel
theorem Zvd:Vq "bool" = some (.type "bool"):=by decide +kernel
theorem Ybu:Vq "str" = some (.type "str"):=by decide +kernel
section
variable {X:Cx} {tg:Vv}
theorem Zys {K:Xb} {H0:Hp} {ι0:List Ve} {a:Ve} {xs:List D} {vs:List V} (hS:SqT K H0 a vs) (P:Vj (Rep K H0 ι0) xs vs):ItRep K (Itt K a) xs [] H0 ι0:=by
 refine⟨fun i H2 ι2 Hd2 l2 h2 _ hi=>?_,fun i H2 ι2 Hd2 d x H3 l2 h2 _ hd y=>?_,fun i H2 ι2 Hd2 l2 h2 _ hi=>⟨vs,l2.tup a vs hS,by rw[<- Prd.len P]; exact hi⟩⟩
 ·exact⟨vs,vs[i]'(by rw[<- Prd.len P]; exact hi),l2.tup a vs hS,by simp⟩
 ·obtain⟨rfl,y⟩:=y
  obtain⟨u,hu,ru⟩:=Prd.get P hd
  have:=y vs (l2.tup a vs hS)
  rw[hu] at this
  cases this
  exact⟨ι2,Le.refl,h2,ru.mono l2⟩
theorem Yb8 {K:Xb} {H0:Hp} {ι0:List Ve} {a:Ve} {xs:List D} {vs:List V} (hS:FzL K H0 a vs) (P:Vj (Rep K H0 ι0) xs vs):ItRep K (Itl K a) xs [] H0 ι0:=by
 refine⟨fun i H2 ι2 Hd2 l2 h2 _ hi=>?_,fun i H2 ι2 Hd2 d x H3 l2 h2 _ hd y=>?_,fun i H2 ι2 Hd2 l2 h2 _ hi=>⟨vs,(l2.fz a vs hS).sq,by rw[<- Prd.len P]; exact hi⟩⟩
 ·exact⟨vs,vs[i]'(by rw[<- Prd.len P]; exact hi),(l2.fz a vs hS).sq,by simp⟩
 ·obtain⟨rfl,y⟩:=y
  obtain⟨u,hu,ru⟩:=Prd.get P hd
  have:=y vs (l2.fz a vs hS).sq
  rw[hu] at this
  cases this
  exact⟨ι2,Le.refl,h2,ru.mono l2⟩
theorem Zzi {K:Xb} {H0:Hp} {ι0:List Ve} {a:Ve} {n:Nat} {xs:List D} (ha:ι0[n]? = some a):ItRep K (Itl K a) xs [(n,.lst xs)] H0 ι0:=by
 have now:∀ {H2:Hp} {ι2:List Ve} {Hd2:HD},Le K H0 ι0 H2 ι2->HRep K H2 ι2 Hd2->Zb7 [(n,DO.lst xs)] Hd2->∃ ws,H2 a=some (.lst ws)/\Vj (Rep K H2 ι2) xs ws:=fun {H2 ι2 Hd2} l2 h2 ok =>
  h2.obj n a _ (l2.get ha) (ok (n,.lst xs) (by simp))
 refine⟨fun i H2 ι2 Hd2 l2 h2 ok hi=>?_,fun i H2 ι2 Hd2 d x H3 l2 h2 ok hd y=>?_,fun i H2 ι2 Hd2 l2 h2 ok hi=>?_⟩
 ·obtain⟨ws,h3,P3⟩:=now l2 h2 ok
  exact⟨ws,ws[i]'(by rw[<- Prd.len P3]; exact hi),SqL.of h3,by simp⟩
 ·obtain⟨ws,h3,P3⟩:=now l2 h2 ok
  obtain⟨rfl,y⟩:=y
  obtain⟨u,hu,ru⟩:=Prd.get P3 hd
  have:=y ws (SqL.of h3)
  rw[hu] at this
  cases this
  exact⟨ι2,Le.refl,h2,ru⟩
 ·obtain⟨ws,h3,P3⟩:=now l2 h2 ok
  exact⟨ws,SqL.of h3,by rw[<- Prd.len P3]; exact hi⟩
nonrec def iSq (f:EF):ItF:=fun σ H=>(f σ H).bind fun p=>(Zi0 p.1 p.2).map fun r=>(r,p.2)
theorem Zcz {l:Vv} {f:EF} (hl:PEf X l f):PIf X tg l (iSq f):=by
 rintro pins s σ H R I ⟨ι,σd,Hd,xs,own,Hd',sr,hr,e,q⟩
 obtain⟨⟨d,H1⟩,e1,e⟩:=Zo e
 obtain⟨⟨ys,ow⟩,e2,e⟩:=Zm e
 obtain⟨e3,rfl⟩:=Wbe.inj e
 obtain⟨rfl,rfl⟩:=Wbe.inj e3
 refine thn (hl pins s σ H (fun v H1=>∃ a,v=.ref a/\(((∃ xs,SqL X.K H1 a xs)/\R (Itl X.K a) H1)\/((∃ xs,SqT X.K H1 a xs)/\R (Itt X.K a) H1))) I ⟨ι,σd,Hd,_,_,sr,hr,e1,fun v H' ι' l h r=>?_⟩) fun v s1 ⟨x,H2,I2,r2,q2⟩=>?_
 ·cases d with
  | tup zs =>
   cases e2
   obtain⟨a,vs,rfl,hS,P⟩:=Zbc.mp r
   exact⟨a,rfl,.inr ⟨⟨vs,hS⟩,q _ H' ι' l h (Zys hS P)⟩⟩
  | fl zs =>
   cases e2
   obtain⟨a,vs,rfl,hS,P⟩:=Zgq.mp r
   exact⟨a,rfl,.inl ⟨⟨vs,hS.sq⟩,q _ H' ι' l h (Yb8 hS P)⟩⟩
  | ref n =>
   simp only[Zi0] at e2
   split at e2
   ·rename_i zs eo
    obtain⟨e5,e6⟩:=Wbe.inj (Xy.inj e2)
    subst e5 e6
    obtain⟨a,rfl,ha⟩:=Za0.mp r
    obtain⟨vs,h1,P⟩:=h.obj n a _ ha eo
    exact⟨a,rfl,.inl ⟨⟨vs,SqL.of h1⟩,q _ H' ι' l h (Zzi ha)⟩⟩
   ·cases e2
  | _=>simp[Zi0] at e2
 ·obtain⟨a,rfl,q2⟩:=q2
  cases r2
  have fp:∀ b∈[s1.heap.objs.size],Zko X pins H2 b:=fun b hb=>by
   have e:b=s1.heap.objs.size:=by simpa using hb
   subst e
   exact I2.fpOk (Xd _) (I2.hok.fresh (Xd _))
  rcases q2 with ⟨⟨xs,hq⟩,q2⟩ | ⟨⟨xs,hq⟩,q2⟩
  ·obtain⟨its,rv,p,hz⟩:=I2.list hq
   exact Uas p.isList ⟨s1.heap.objs.size,[s1.heap.objs.size],_,_,H2,rfl,I2.kept (t':=s1.toks) fun b o e=>Xa _ e,Zuy a _,⟨_,Xe _ rfl,rfl,rfl⟩,fp,q2⟩
  ·obtain⟨its,rv,p,hz⟩:=I2.tuple hq
   exact Uag (show s1.heap.IsTuple a its.toArray from p) ⟨s1.heap.objs.size,[s1.heap.objs.size],_,_,H2,rfl,I2.kept (t':=s1.toks) fun b o e=>Xa _ e,Zqt a _,⟨_,Xe _ rfl,rfl,rfl⟩,fp,q2⟩
end
theorem Zav {X:Cx} {e:Vv} {es:List Vv} {f:EF} {g:AF} (ha:PEf X e f) (hr:PAf X es g) (hs:Zp5 e=true):PAf X (e::es) (Zab f g):=Zvm ha hr (Zb3 hs)
nonrec def Yby (F:FF) (K:Xb):Sp:=spF K 1 F
variable {X:Cx}
nonrec def Yas:List D->Option (List Bool)
 | []=>some []
 | .bl b::r=>(Yas r).map fun x=>b::x
 | _::_=>none
theorem Znj {K:Xb} {H:Hp} {ι:List Ve}:∀ {xs:List D} {bs:List Bool} {vs:List V} {us:List Vb},Yas xs=some bs->Vj (Rep K H ι) xs vs->Zb8 vs us->us=bs.map .bool
 | [],bs,vs,us,e,P,q=>by cases e; cases P; cases q; rfl
 | d::r,bs,vs,us,e,P,q=>by
  cases P with
  | cons p P =>
   cases q with
   | cons q Q =>
    cases d<;>simp only[Yas] at e<;>try cases e
    obtain⟨y,e1,rfl⟩:=Zm e
    simp at p
    subst p
    cases q
    rw[Znj e1 P Q]
    rfl
theorem Zvy (bs:List Bool):Yas (bs.map .bl)=some bs:=by
 induction bs with
 | nil=>rfl
 | cons b r ih=>simp[Yas,ih]
nonrec def Yax:FF:=fun ds H=>match ds with
 | [.ref n]=>match H[n]? with
  | some (.lst xs)=>(Yas xs).map fun bs=>(.bl (bs.all id),H)
  | _=>none
 | _=>none
theorem Zt3 (bs:List Bool):((Wcp bs.length).all fun i=>(bs[i]?).getD true)=bs.all id:=by
 rw[Wfu,Wab,Wab]
 constructor
 ·intro h x hx
  obtain⟨i,hi,rfl⟩:=List.getElem_of_mem hx
  have:=h i (by simpa using hi)
  simpa [hi] using this
 ·intro h i hi
  have hi:i<bs.length:=by simpa using hi
  have:=h _ (Wac hi)
  simpa [hi] using this
theorem Zun (hc:X.calm=true):Zih X (.builtin "all") Yax:=by
 rintro pins s σ H xs us Q I rv ⟨ι,ds,Hd,d,Hd',hr,P,e,q⟩
 unfold Yax at e
 split at e
 ·rename_i n
  split at e
  ·rename_i ys eo
   obtain⟨bs,e1,e⟩:=Zm e
   obtain⟨rfl,rfl⟩:=Wbe.inj e
   obtain⟨v,rfl,r⟩:=Zl0 P
   obtain⟨a,rfl,ha⟩:=Za0.mp r
   obtain⟨vs,h1,P2⟩:=hr.obj n a _ ha eo
   cases rv with
   | cons rx rv =>
    cases rv
    cases rx
    obtain⟨its,rv2,p,hz⟩:=I.list (SqL.of h1)
    have eits:=Znj e1 P2 rv2
    have hlt:a<s.heap.objs.size:=by
     obtain⟨o,ho,_⟩:=p.isList
     exact Xf ho
    refine call_all_walk (Uas p.isList ⟨s.heap.objs.size,[s.heap.objs.size,a],[s.heap.objs.size],its.toArray.size,_,_,fun i=>(bs[i]?).getD true,rfl,
     Walks.list (A:=X.A.in1) (show X.A.in1.handled=none from I.ok.hd hc) s.heap.objs.size a (Xi hlt) its.toArray,⟨⟨_,Xe _ rfl,rfl,rfl⟩,p.isList.at fun o z=>Xa _ z⟩,?_,fun h' tk k=>?_⟩)
    ·intro i v s2 Q2 E2 hv hq
     rw[eits] at hv
     have hv2:(bs.map Tci)[i]? = some v:=by simpa using hv
     rw[Xp] at hv2
     obtain⟨b,hb,rfl⟩:=Zm hv2
     refine Uai ?_
     simpa [hb] using hq
    ·have hn:its.toArray.size=bs.length:=by rw[eits]; simp
     rw[hn,Zt3]
     refine⟨.bl (bs.all id),H,I.kept (t':=tk) fun b o z=>k b o ?_ (Xa _ z),rfl,q _ H ι Le.refl hr (by simp)⟩
     intro hm
     have:b=s.heap.objs.size:=by simpa using hm
     exact absurd (this ▸ Xf z) (Wbg _)
  ·cases e
 ·cases e
variable {X:Cx}
section
variable {a b c:Vv} {pos:Pos}
nonrec def eCh (g g':F2) (fa fb fc:EF):EF:=fun σ H=>(fa σ H).bind fun p=>(fb σ p.2).bind fun q=>(g p.1 q.1 q.2).bind fun z=>(blD z.1).bind fun k=>if k=true then (fc σ z.2).bind fun w=>g' q.1 w.1 w.2 else some (.bl false,z.2)
theorem Zwf {fa fb fc:EF} {g g':F2} {σ:L2.St} {H:Hp} {Q:VK} {K:Xb} (h:rdE K (eCh g g' fa fb fc) σ H Q):Zxo (rd2 K g) (rd2 K g') (rdE K fa) (rdE K fb) (rdE K fc) σ H Q:=by
 obtain⟨ι,σd,Hd,d,Hd',s,hr,e,q⟩:=h
 obtain⟨⟨x,H1⟩,e1,e⟩:=Zo e
 obtain⟨⟨y,H2⟩,e2,e⟩:=Zo e
 obtain⟨⟨z,H3⟩,e3,e⟩:=Zo e
 obtain⟨k,e4,e⟩:=Zo e
 refine⟨ι,σd,Hd,x,H1,s,hr,e1,fun v1 H1' ι1 l1 h1 r1=>⟨ι1,σd,H1,y,H2,s.mono l1,h1,e2,fun v2 H2' ι2 l2 h2 r2=>⟨ι2,x,y,H2,z,H3,h2,r1.mono l2,r2,e3,fun v3 H3' ι3 l3 h3 r3=>⟨k,Zks e4 r3,?_⟩⟩⟩⟩
 cases k with
 | true =>
  rw[if_pos rfl] at e ⊢
  obtain⟨⟨u,H4⟩,e5,e⟩:=Zo e
  exact⟨ι3,σd,H3,u,H4,s.mono ((l1.trans l2).trans l3),h3,e5,fun v4 H4' ι4 l4 h4 r4=>⟨ι4,y,u,H4,d,Hd',h4,r2.mono (l3.trans l4),r4,e,fun v H' ι' l h r=>q v H' ι' ((((l1.trans l2).trans l3).trans l4).trans l) h r⟩⟩
 | false =>
  rw[if_neg (by simp)] at e ⊢
  obtain⟨rfl,rfl⟩:=Wbe.inj (Xy.inj e)
  exact q _ H3' ι3 ((l1.trans l2).trans l3) h3 (by simp)
theorem Zib {op op':CmpOp} {g g':F2} {fa fb fc:EF} (ho:OpF X (Vr op) g) (ho':OpF X (Vr op') g') (ha:PEf X a fa) (hb:PEf X b fb) (hc:PEf X c fc)
  (hm:lastMarks [op,op'] [b,c]=false):PEf X (.Compare a [op,op'] [b,c] pos) (eCh g g' fa fb fc) :=
 PEi (Zw4 ho ho' ha hb hc hm) fun _ _ _ h=>Zwf h
end
def Gc (K:Xb) (mg:Str->Option Vb) (x:Str) (d:D):Prop:=∃ u v,mg x=some u/\Zcg v u/\∀ H ι,Rep K H ι d v
theorem Zuw {x:Str} {d:D} {pos:Pos} (hg:Gl X x) (h:Gc X.K X.mg x d) (hd:(x==("__debug__" : Str))=false:=by decide):PEf X (.Name x pos) (eC d):=by
 obtain⟨u,v,hm,r,rp⟩:=h
 exact Zny (Zvf (v:=v) hg hm r hd) rp
variable {X:Cx}
nonrec def Zbh (kvs:List (D×D)) (k:List Int):Option D:=(kvs.find? fun p=>nk p.1==some k).map (·.2)
nonrec def Znq (kvs:List (D×D)) (kd:D) (k:List Int) (vd:D):List (D×D) :=
 if (Zbh kvs k).isSome then kvs.map (fun p=>if nk p.1=some k then (p.1,vd) else p) else kvs++[(kd,vd)]
section
variable {K:Xb} {H:Hp} {ι:List Ve}
theorem Zje {kvs:List (D×D)} {xs:List (List Int×Ve×Vb)} (h:Vj (Zrk K H ι) kvs xs) (k:List Int) :
  (Zbh kvs k=none/\atKey xs k=none)\/∃ vd b u v,Zbh kvs k=some vd/\atKey xs k=some (b,u)/\Zcg v u/\Rep K H ι vd v:=by
 unfold Zbh atKey
 induction h with
 | nil=>exact .inl ⟨rfl,rfl⟩
 | @cons p x ps ys r t ih =>
  obtain⟨r1,r2,v,r3,r4⟩:=r
  by_cases hk:x.1=k
  ·have e1:(nk p.1==some k)=true:=by rw[r1,hk]; simp
   refine .inr ⟨p.2,x.2.1,x.2.2,v,?_,?_,r3,r4⟩
   ·rw[Wbz]; simp only[e1]; rfl
   ·rw[Wbz]; simp only[hk,decide_true]; rfl
  ·have e1:¬ (nk p.1==some k)=true:=by rw[r1]; simpa using hk
   have e1':(nk p.1==some k)=false:=by simpa using e1
   have e2':decide (x.1=k)=false:=decide_eq_false hk
   rw[Wbz,Wbz]
   simp only[e1',e2']
   exact ih
theorem Zxb {kvs:List (D×D)} {xs:List (List Int×Ve×Vb)} {kd vd:D} {k:List Int} {b:Ve} {u:Vb} {v:V} (h:Vj (Zrk K H ι) kvs xs) (h1:nk kd=some k) (h2:Rep K H ι kd (.ref b)) (rv:Zcg v u) (r:Rep K H ι vd v) :
  Vj (Zrk K H ι) (Znq kvs kd k vd) (Uei xs k b u):=by
 have all:∀ {ls:List (D×D)} {ys:List (List Int×Ve×Vb)},Vj (Zrk K H ι) ls ys->Vj (Zrk K H ι) (ls.map (fun p=>if nk p.1=some k then (p.1,vd) else p)) (ys.map (putAt k u)):=by
  intro ls ys q
  induction q with
  | nil=>exact .nil
  | @cons p x ps zs r' t ih =>
   refine .cons ?_ ih
   obtain⟨r1,r2,r3⟩:=r'
   unfold putAt
   by_cases hk:x.1=k
   ·have e:nk p.1=some k:=by rw[r1,hk]
    show Zrk K H ι (if nk p.1=some k then (p.1,vd) else p) (if x.1=k then (x.1,x.2.1,u) else x)
    rw[if_pos hk,if_pos e]
    exact⟨r1,r2,v,rv,r⟩
   ·have e:¬ nk p.1=some k:=by rw[r1]; simpa using hk
    show Zrk K H ι (if nk p.1=some k then (p.1,vd) else p) (if x.1=k then (x.1,x.2.1,u) else x)
    rw[if_neg hk,if_neg e]
    exact⟨r1,r2,r3⟩
 unfold Znq Uei
 rcases Zje h k with ⟨e1,e2⟩ | ⟨_,_,_,_,e1,e2,_⟩
 ·rw[e1,e2]
  exact Prd.append h (.cons ⟨h1,h2,v,rv,r⟩ .nil)
 ·rw[e1,e2]
  exact all h
theorem Zw9 (kvs:List (D×D)) (kd:D) (k:List Int) (vd:D):(Znq kvs kd k vd).length<=kvs.length+1:=by
 unfold Znq; split<;>simp
end
section
variable {pins:List (Ve×Obj)} {σ:L2.St} {H:Hp} {s:Vd} {ι:List Ve} {Hd:HD}
theorem Ybk {d:D} {v:V} {u:Vb} {k:Int} {K:Xb} (e:nkOf d=some k) (r:Rep K H ι d v) (q:Zcg v u):Zmc k u=true:=by
 cases d with
 | bl b=>cases e; simp at r; subst r; cases q; simp[Zmc,Zsa]
 | int i=>cases e; simp at r; subst r; obtain⟨t,rfl⟩:=q; simp[Zmc,Zsa]
 | _=>cases e
theorem Zmf {P:Vh} {w:Vu} {K:Xb}:∀ {ds:List D} {vs:List V} {us:List Vb} {ks:List Int},Zkh ds=some ks->Vj (Rep K H ι) ds vs->Zb8 vs us->ItemsAre (Zcn P w) ks us
 | [],vs,us,ks,e,p,q=>by cases e; cases p; cases q; exact .nil
 | d::ds,vs,us,ks,e,p,q=>by
  cases p with
  | cons p1 p2 =>
   cases q with
   | cons q1 q2 =>
    simp only[Zkh] at e
    obtain⟨k,e1,e⟩:=Zo e
    obtain⟨r,e2,rfl⟩:=Zm e
    exact .cons (Ybk e1 p1 q1) (Zmf e2 p2 q2)
theorem Zmm (I:Inv X pins σ H s) {d:D} {k:List Int} {b:Ve} (e:nk d=some k) (r:Rep X.K H ι d (.ref b)):(Uaz (Zcn X.prog X.w)).is s.heap k b:=by
 cases d<;>simp only[nk] at e<;>try cases e
 rename_i ds
 obtain⟨a,vs,ea,h,P⟩:=Zbc.mp r
 cases ea
 obtain⟨its,rv,ht,hz⟩:=I.tuple h
 obtain⟨o,h1,h2,n,h3⟩:=ht
 exact⟨o,its.toArray,n,h1,h2,h3,by simpa using Zmf e P rv⟩
theorem Zh9 (I:Inv X pins σ H s) {a:Ve} {kvs:List (D×D)} {fz:Bool} (h:Zqi X.K H ι a (.dic kvs fz)):(a==Uad)=false/\kvs.length<=sizeLine/\∃ xs,(if fz=true then ∃ o,H a=some (.frz o (.ext (Zda a xs))) else H a=some (.ext (Zda a xs)))/\Vj (Zrk X.K H ι) kvs xs/\s.heap.DictOfH (Uaz (Zcn X.prog X.w)) a xs:=by
 obtain⟨h1,h2,xs,e,p⟩:=h
 have rd:Rd H a (.ext (Zda a xs)):=by
  cases fz with
  | true=>rw[if_pos rfl] at e; exact .inr e
  | false=>rw[if_neg (by simp)] at e; exact .inl e
 obtain⟨⟨o,es,ep,g1,g2,g3,g4,g5⟩,_⟩:=(show Zc9 X.prog X.w H s.heap a (.ext (Zda a xs)) from rd.ok I.hok)
 refine⟨h1,h2,xs,e,p,o,es,ep,g1,g2,g3,g4,?_,g5⟩
 have all:∀ {l:List (D×D)} {m:List (List Int×Ve×Vb)},Vj (Zrk X.K H ι) l m->∀ x∈m,(Uaz (Zcn X.prog X.w)).is s.heap x.1 x.2.1:=by
  intro l m q
  induction q with
  | nil=>intro x hx; exact nomatch hx
  | @cons p x ps qs hq t ih =>
   intro y hy
   rcases Xh.mp hy with e | hy
   ·subst e
    exact Zmm I hq.1 hq.2.1
   ·exact ih y hy
 exact all p
end
nonrec def Zvi (x:D) (H:HD):Option (List (D×D)):=match x with
 | .ref n=>match H[n]? with
  | some (.dic kvs _)=>some kvs
  | _=>none
 | _=>none
theorem Zjh {x:D} {Hd:HD} {kvs:List (D×D)} (e:Zvi x Hd=some kvs):∃ n fz,x=.ref n/\Hd[n]? = some (.dic kvs fz):=by
 cases x<;>simp only[Zvi] at e<;>try cases e
 rename_i n
 split at e
 ·rename_i fz h; cases e; exact⟨n,fz,rfl,h⟩
 ·cases e
nonrec def Ze1:F2:=fun x y H=>(Zvi x H).bind fun kvs=>(nk y).bind fun k=>(Zbh kvs k).map fun v=>(v,H)
theorem Zoy {K:Xb} {H:Hp} {ι:List Ve} {d:D} {k:List Int} {v:V} (e:nk d=some k) (r:Rep K H ι d v):∃ b,v=.ref b:=by
 cases d<;>simp only[nk] at e<;>try cases e
 obtain⟨a,vs,rfl,_⟩:=Zbc.mp r
 exact⟨a,rfl⟩
theorem Znv (hu:X.A.units+64<cLine):IxF X Ze1:=by
 rintro va sl pins s σ H x y v u Q I rx ry ⟨ι,dx,dy,Hd,d,Hd',hr,r1,r2,e,q⟩ hs
 obtain⟨kvs,e1,e⟩:=Zo e
 obtain⟨k,e2,e⟩:=Zo e
 obtain⟨vd,e3,e⟩:=Zm e
 obtain⟨rfl,rfl⟩:=Wbe.inj e
 obtain⟨n,fz,rfl,hn⟩:=Zjh e1
 obtain⟨a,rfl,ha⟩:=Za0.mp r1
 obtain⟨b,rfl⟩:=Zoy e2 r2
 cases rx
 cases ry
 obtain⟨h1,h2,xs,h3,P,dd⟩:=Zh9 I (hr.obj n a _ ha hn)
 have key:=Zmm I e2 r2
 rcases Zje P k with ⟨z,_⟩ | ⟨vd',b',u',v',z1,z2,z3,z4⟩
 ·rw[z] at e3; cases e3
 ·rw[z1] at e3; cases e3
  have ty:s.TypeIs (.ref a) "dict" := dd.typeIs
  refine tail_any (ops:=[.ref a,.ref b]) ty PySem.F.slot_dict_getitem.lookup (wpAny_getItem_heap (knd:=Uaz (Zcn X.prog X.w)) (Ubt (by omega)) key dd z2 ?_) hs
  exact⟨v',H,I.tok _,z3,q _ H ι Le.refl hr z4⟩
nonrec def dinD:F2:=fun x y H=>(Zvi y H).bind fun kvs=>(nk x).map fun k=>(.bl (Zbh kvs k).isSome,H)
theorem dinf (hu:X.A.units+64<cLine):OpF X (Vr .In) dinD:=by
 rintro pins s σ H x y v u Q I rx ry ⟨ι,dx,dy,Hd,d,Hd',hr,r1,r2,e,q⟩
 obtain⟨kvs,e1,e⟩:=Zo e
 obtain⟨k,e2,e⟩:=Zm e
 obtain⟨rfl,rfl⟩:=Wbe.inj e
 obtain⟨n,fz,rfl,hn⟩:=Zjh e1
 obtain⟨a,rfl,ha⟩:=Za0.mp r2
 obtain⟨b,rfl⟩:=Zoy e2 r1
 cases rx
 cases ry
 obtain⟨h1,h2,xs,h3,P,dd⟩:=Zh9 I (hr.obj n a _ ha hn)
 refine wpAny_in_heap (knd:=Uaz (Zcn X.prog X.w)) (Ubt (by omega)) (Zmm I e2 r1) h1 dd ?_
 have e3:(atKey xs k).isSome=(Zbh kvs k).isSome:=by
  rcases Zje P k with ⟨z1,z2⟩ | ⟨_,_,_,_,z1,z2,_⟩<;>rw[z1,z2]<;>rfl
 rw[e3]
 exact⟨.bl _,H,I.tok _,rfl,q _ H ι Le.refl hr (by simp)⟩
nonrec def eDN:EF:=fun _ H=>some (.ref H.length,H++[.dic [] false])
theorem Zld {pos:Pos}:PEf X (.Dict [] [] pos) eDN:=by
 rintro pins s σ H Q I ⟨ι,σd,Hd,d,Hd',sr,hr,e,q⟩
 cases e
 have hb:Uad<s.heap.objs.size:=Nat.lt_trans (by decide) (show Vl<s.heap.objs.size from(I.mod.glob.keeps I.bk).lt)
 have hp:=I.hok.fresh (Xd s.heap.objs.size)
 have ok:Zc9 X.prog X.w (upd H s.heap.objs.size (.ext (Zda s.heap.objs.size []))) (s.heap.push { cls:=.type "dict",data:=.dict #[] }) s.heap.objs.size (.ext (Zda s.heap.objs.size [])) :=
  ⟨⟨_,#[],0,Xe _ rfl,⟨rfl,rfl,rfl⟩,rfl,rfl,List.nodup_nil⟩,⟨_,Xe _ rfl⟩,fun h1 h2 d k=>Zda.keep d k⟩
 refine wpAny_Dict_empty ⟨.ref s.heap.objs.size,_,I.laid (a:=s.heap.objs.size) (o:=.ext (Zda s.heap.objs.size [])) (t':=s.toks) (fun _ _ q=>Xa _ q) (Xd _) ok,rfl,?_⟩
 have hl:ι.length=Hd.length:=hr.len
 refine q _ _ (ι++[s.heap.objs.size]) (Le.fresh1 hp _) (hr.new hp ⟨beq_eq_false_iff_ne.mpr (Uo (Xi hb)),Wbb _,[],by rw[if_neg (by simp)]; exact Zaq,.nil⟩) (Za0.mpr ⟨_,rfl,by rw[<- hl]; simp⟩)
nonrec def Zlp:Zym:=fun o i v H=>match o with
 | .ref n=>match H[n]? with
  | some (.dic kvs false)=>(nk i).bind fun k=>if kvs.length<sizeLine then some (H.set n (.dic (Znq kvs i k v) false)) else none
  | _=>none
 | _=>none
theorem Zm5 {pins:List (Ve×Obj)} {σ:L2.St} {H:Hp} {s:Vd} {a:Ve} {xs xs':List (List Int×Ve×Vb)} {h':Vz} {t':Nat} (I:Inv X pins σ H s) (h3:H a=some (.ext (Zda a xs))) (dd:h'.DictOfH (Uaz (Zcn X.prog X.w)) a xs') (hs:Xz a s.heap h') :
  Inv X pins σ (upd H a (.ext (Zda a xs'))) { s with heap:=h',toks:=t' }:=by
 obtain⟨o,es,ep,g1,g2,g3,g4,_,g5⟩:=dd
 have ok:Zc9 X.prog X.w (upd H a (.ext (Zda a xs'))) h' a (.ext (Zda a xs')):=⟨⟨o,es,ep,g1,g2,g3,g4,g5⟩,⟨o,g1⟩,fun h1 h2 d k=>Zda.keep d k⟩
 exact I.write (x:=a) (e:=a) (by rw[h3]; exact Tay) (.inl rfl) (fun b q hb z=>(hs.2 b hb).trans z) ⟨o,g1⟩ ok
theorem Ztj {H:Hp} {ι:List Ve} {Hd:HD} {n:Nat} {a:Ve} {kvs:List (D×D)} {xs:List (List Int×Ve×Vb)} {kd vd:D} {k:List Int} {b:Ve} {u:Vb} {v:V} (hr:HRep X.K H ι Hd) (ha:ι[n]? = some a) (h1:(a==Uad)=false) (hl:kvs.length<sizeLine) (h3:H a=some (.ext (Zda a xs))) (P:Vj (Zrk X.K H ι) kvs xs) (e2:nk kd=some k) (r2:Rep X.K H ι kd (.ref b)) (rv:Zcg v u) (r3:Rep X.K H ι vd v) :
  Le X.K H ι (upd H a (.ext (Zda a (Uei xs k b u)))) ι/\HRep X.K (upd H a (.ext (Zda a (Uei xs k b u)))) ι (Hd.set n (.dic (Znq kvs kd k vd) false)):=by
 have L:Le X.K H ι (upd H a (.ext (Zda a (Uei xs k b u)))) ι:=Le.upd (Xu ha) h3 trivial _
 refine⟨L,hr.upd ha h3 trivial ⟨h1,?_,_,by rw[if_neg (by simp)]; exact Zaq,?_⟩⟩
 ·have:=Zw9 kvs kd k vd; omega
 ·refine Zxb (Prd.imp P fun p x _ z=>⟨z.1,z.2.1.mono L,let ⟨v,z1,z2⟩:=z.2.2; ⟨v,z1,z2.mono L⟩⟩) e2 (r2.mono L) rv (r3.mono L)
theorem Ydv (hu:X.A.units+64<cLine):Zy3 X Zlp:=by
 rintro pins s σ H o i v ov iv u Q I ro ri rv ⟨ι,od,id,vd,Hd,Hd',hr,r1,r2,r3,e,q⟩
 cases od<;>simp only[Zlp] at e<;>try cases e
 rename_i n
 split at e
 ·rename_i kvs hn
  obtain⟨k,e2,e⟩:=Zo e
  split at e
  ·rename_i hl
   cases e
   obtain⟨a,rfl,ha⟩:=Za0.mp r1
   obtain⟨b,rfl⟩:=Zoy e2 r2
   cases ro
   cases ri
   obtain⟨h1,h2,xs,h3,P,dd⟩:=Zh9 I (hr.obj n a _ ha hn)
   rw[if_neg (by simp)] at h3
   have hz:xs.length<=sizeLine:=by rw[<- Prd.len P]; exact h2
   refine wpAny_setItem_heap (knd:=Uaz (Zcn X.prog X.w)) (hsz:=hz) (Ubt (by omega)) (Zmm I e2 r2) dd fun h' dd' hs=>?_
   obtain⟨L,hr'⟩:=Ztj hr ha h1 hl h3 P e2 r2 rv r3
   exact⟨_,Zm5 I h3 dd' hs,q _ ι L hr'⟩
  ·cases e
 ·cases e
section
variable {prog:Vh} {w:Vu} {kd:HeapKind prog w (List Int)} {A:Vt} {E:Vb->Vd->Prop} {s:Vd}
theorem Zn2 {d b:Ve} {xs:List (List Int×Ve×Vb)} {k:List Int} {v:Vb} {Q:Vb->Vd->Prop} (rm:kd.room A) (key:kd.is s.heap k b) (dm:s.heap.DictOfH kd d xs) (sz:xs.length<=sizeLine)
  (old:∀ p,atKey xs k=some p->Q p.2 { s with toks:=s.toks+kd.draws k })
  (new:atKey xs k=none->∀ h2,h2.DictOfH kd d (Uei xs k b v)->Xz d s.heap h2->Q v { s with heap:=h2,toks:=s.toks+kd.draws k }) :
  Vf (Vm prog w) A (Udg d (.ref b) v) Q E s:=by
 obtain⟨ob,es,ep,g1,g2,g3,g4,g5,g6⟩:=dm
 unfold Udg
 refine Vw (Va (kd.pyHash rm key (Va (wpAny_dictFind_heap (s:={ s with toks:=s.toks+kd.draws k }) rm key g1 g3 g4 g5 g6 (fun no=>?_) (fun j p hj=>?_)))))
 ·have em:=atKey_none_of_get no
  have sm:∀ f,Xz d s.heap (s.heap.update d f):=fun f=>Xz.update ..
  have len:=size_of_entries g4
  refine Va (Ubi (Va (wpAny_updateDictKeys (s:={ s with toks:=s.toks+kd.draws k }) (hz:=by omega) g1 g3 (Vc (new em _ ?_ (sm _))))))
  refine⟨_,_,ep+1,Wdf _ g1 (Obj.isFreed_of_dict (Tce g3 _)),g2.mapDictKeys _,Tce g3 _,?_⟩
  rw[storedH_new em]
  refine⟨by simp[g4,entryOfKey],fun x hx=>?_,?_⟩
  ·have one:kd.is s.heap x.1 x.2.1:=by
    rcases Xv.mp hx with hx | hx
    ·exact g5 x hx
    ·rw[Wcw.mp hx]; exact key
   exact kd.keeps one g1 g3 (sm _)
  ·have nm:=not_mem_keys_of_get no
   rw[Wae,Wat]
   refine⟨g6,by simp,fun x hx y hy e=>nm ?_⟩
   have yk:y=k:=by simpa using hy
   rw[<- yk,<- e]
   exact hx
 ·have ae:=entry_at g4 j
  rw[hj] at ae
  refine Va (Uat (s:={ s with toks:=s.toks+kd.draws k }) g1 g3 ?_)
  rw[ae]
  exact Va (Ubi (Vc (old p (atKey_of_get g6 hj))))
end
nonrec def Zjq (x:D) (ds:List D) (H:HD):Option (D×HD):=match x,ds with
 | .ref n,[y,v]=>match H[n]? with
  | some (.dic kvs false)=>(nk y).bind fun k=>if kvs.length<sizeLine then match Zbh kvs k with
   | some z=>some (z,H)
   | none=>some (v,H.set n (.dic (Znq kvs y k v) false))
   else none
  | _=>none
 | _,_=>none
theorem Yaj (hu:X.A.units+64<cLine):MtF X "dict.setdefault" Zjq:=by
 rintro pins s σ H x xs v us Q I rx rv ⟨ι,dx,ds,Hd,d,Hd',hr,r1,P1,e,q⟩
 unfold Zjq at e
 split at e
 ·rename_i n y vd
  split at e
  ·rename_i kvs hn
   obtain⟨k,e2,e⟩:=Zo e
   split at e
   ·rename_i hl
    obtain⟨a,rfl,ha⟩:=Za0.mp r1
    obtain⟨v1,v2,rfl,ry,rd⟩:=Ybh P1
    obtain⟨b,rfl⟩:=Zoy e2 ry
    cases rx
    cases rv with
    | cons q1 rv =>
     cases rv with
     | cons q2 rv =>
      cases rv
      cases q1
      rename_i u2
      obtain⟨h1,h2,ys,h3,P,dd⟩:=Zh9 I (hr.obj n a _ ha hn)
      rw[if_neg (by simp)] at h3
      have hz:ys.length<=sizeLine:=by rw[<- Prd.len P]; exact h2
      have ty:s.TypeIs (.ref a) "dict" := dd.typeIs
      have body:Vf (Vm X.prog X.w) X.A.in1 (Builtin.«dict.setdefault» ⟨[.ref a,.ref b,u2],[]⟩) (fun fin s'=>∃ r,fin=.done (.ret r)/\EP X pins σ Q r s') X.xe s:=by
       unfold Builtin.«dict.setdefault» Builtin.Dict.keyAndDefault
       refine Va (Va (Ucs ty (Vc ?_)))
       show Vf _ _ (if (a==Uad)=true then _ else (Udg a (.ref b) u2 >>= _)) _ _ s
       rw[if_neg (by rw[h1]; decide)]
       refine Va (Zn2 (kd:=Uaz (Zcn X.prog X.w)) (show (Uaz (Zcn X.prog X.w)).room X.A.in1 from(by show X.A.units+1<cLine; omega)) (Zmm I e2 ry) dd hz (fun p hp=>?_) (fun hp h2' dd' hs=>?_))
       ·rcases Zje P k with ⟨_,z⟩ | ⟨vd',b',u',v',z1,z2,z3,z4⟩
        ·rw[z] at hp; cases hp
        ·rw[z2] at hp; cases hp
         rw[z1] at e; cases e
         exact Vc ⟨_,rfl,v',H,I.tok _,z3,q _ H ι Le.refl hr z4⟩
       ·rcases Zje P k with ⟨z,_⟩ | ⟨vd',b',u',v',z1,z2,z3,z4⟩
        ·rw[z] at e; cases e
         obtain⟨L,hr'⟩:=Ztj hr ha h1 hl h3 P e2 ry q2 rd
         exact Vc ⟨_,rfl,v2,_,Zm5 I h3 dd' hs,q2,q _ _ ι L hr' (rd.mono L)⟩
        ·rw[z2] at hp; cases hp
      exact Vp Ur ty PySem.F.entry_dict_setdefault body (PySem.F.args_dict_setdefault_3 _ _ _)
   ·cases e
  ·cases e
 ·cases e
nonrec def Zn5:D->HD->Bool
 | .ref n,H=>match H[n]? with
  | some (.dic _ _)=>true
  | _=>false
 | _,_=>false
nonrec def eDM (g:D->List D->HD->Option (D×HD)) (fo:EF) (f:AF):EF:=fun σ H=>(fo σ H).bind fun o=>if Zn5 o.1 o.2=true then (f σ o.2).bind fun p=>g o.1 p.1 p.2 else none
theorem Zw0 {pins:List (Ve×Obj)} {σ:L2.St} {H:Hp} {s:Vd} {ι:List Ve} {Hd:HD} {x:D} {v:V} {u:Vb} (I:Inv X pins σ H s) (hr:HRep X.K H ι Hd) (r:Rep X.K H ι x v) (rv:Zcg v u) (e:Zn5 x Hd=true) :
  s.TypeIs u "dict" /\ ∀ b,u=.ref b->∃ ob,s.heap.get? b=some ob/\ob.dict=none:=by
 cases x<;>simp only[Zn5] at e<;>try cases e
 rename_i n
 split at e
 ·rename_i kvs fz hn
  obtain⟨a,rfl,ha⟩:=Za0.mp r
  cases rv
  obtain⟨_,_,xs,_,_,dd⟩:=Zh9 I (hr.obj n a _ ha hn)
  refine⟨dd.typeIs,fun b eb=>?_⟩
  cases eb
  obtain⟨ob,_,_,g1,g2,_⟩:=dd
  exact⟨ob,g1,g2.2.1⟩
 ·cases e
theorem Zss {e o:Vv} {es:List Vv} {name:Str} {apos cpos:Pos} {id:String} {g:D->List D->HD->Option (D×HD)} {fo:EF} {f:AF} (slot:Slot "dict" name id) (hty:typeOf (.builtin id)=pure (.type "method_descriptor")) (hm:MtF X id g) (ho:PEf X o fo) (ha:PAf X (e::es) f)
  (hbase:Udq o name X.env (eval o X.env)=eval o X.env:=by rfl)
  (hfew:((Ual cpos (Vg (e::es) X.env)).all (fun x => !x.1)&&(Ucw cpos (Ubh [] X.env)).all (fun x=>x.1.isSome)
   && decide ((e::es).length+([]:List Ubz).length+(if ([]:List Ubz).isEmpty then 0 else 1)<30))=true:=by exact Zp4 rfl (by decide))
  (hline:(apos.endLine==cpos.line)=true:=by rfl) (hs:Vg (e::es) X.env=(false,eval e X.env)::Vg es X.env:=by exact Zb3 rfl) (hplain:(Ual cpos (Vg es X.env)).any (·.1)=false:=by exact Zc2 rfl) :
  PEf X (.Call (.Attribute o name apos) (e::es) [] cpos) (eDM g fo f):=by
 rintro pins s σ H Q I ⟨ι,σd,Hd,d,Hd',sr,hr,e0,q⟩
 obtain⟨⟨x,H1⟩,e1,e0⟩:=Zo e0
 dsimp only at e0
 split at e0
 ·rename_i hl
  obtain⟨⟨y,H2⟩,e2,e0⟩:=Zo e0
  let P1:VK:=fun v1 H1'=>∃ ι1,Le X.K H ι H1' ι1/\HRep X.K H1' ι1 H1/\Rep X.K H1' ι1 x v1
  refine Ucg hbase hfew hline rfl (thn (ho pins s σ H P1 I ⟨ι,σd,Hd,x,H1,sr,hr,e1,fun v1 H1' ι1 l1 h1 r1=>⟨ι1,l1,h1,r1⟩⟩) fun v s1 zz=>?_)
  obtain⟨xv,H1',I1,rx,ι1,l1,h1,r1⟩:=zz
  obtain⟨t1,t2⟩:=Zw0 I1 h1 r1 rx hl
  refine⟨"dict",id,PySem.F.plainAttrs_dict,slot,hty,t1,t2,?_⟩
  let P2:List V->Hp->Prop:=fun vs H2'=>∃ ι2,Le X.K H ι H2' ι2/\HRep X.K H2' ι2 H2/\Rep X.K H2' ι2 x xv/\Vj (Rep X.K H2' ι2) y vs
  have hA:=ha cpos pins s1 σ H1' P2 I1 ⟨ι1,σd,H1,y,H2,sr.mono l1,h1,e2,fun vs H2' ι2 l2 h2 r2=>⟨ι2,l1.trans l2,h2,r1.mono l2,r2⟩⟩
  rw[hs] at hA ⊢
  refine Tbt (by show (false||(Ual cpos (Vg es X.env)).any (·.1))=false; rw[hplain]<;>rfl) (Tcc ?_)
  exact thn hA fun us s2 ⟨vs,H2',I2,r2,ι2,l2,h2,rx2,rp⟩=>hm pins s2 σ H2' xv vs v us Q I2 rx r2 ⟨ι2,x,y,H2,d,Hd',h2,rx2,rp,e0,fun v H' ι' l h r=>q v H' ι' (l2.trans l) h r⟩
 ·cases e0
nonrec def Zkn:FF:=fun ds H=>match ds with
 | [x]=>(Zvi x H).map fun kvs=>(.int kvs.length,H)
 | _=>none
theorem Zke:Zih X (.builtin "len") Zkn:=by
 rintro pins s σ H xs us Q I rv ⟨ι,ds,Hd,d,Hd',hr,P,e,q⟩
 unfold Zkn at e
 split at e
 ·rename_i x
  obtain⟨kvs,e1,e⟩:=Zm e
  obtain⟨rfl,rfl⟩:=Wbe.inj e
  obtain⟨n,fz,rfl,hn⟩:=Zjh e1
  obtain⟨v,rfl,r⟩:=Zl0 P
  obtain⟨a,rfl,ha⟩:=Za0.mp r
  cases rv with
  | cons q1 rv =>
   cases rv
   cases q1
   obtain⟨h1,h2,ys,_,PK,dd⟩:=Zh9 I (hr.obj n a _ ha hn)
   have ty:s.TypeIs (.ref a) "dict" := dd.typeIs
   obtain⟨ob,es,ep,g1,g2,g3,g4,_⟩:=dd
   have sz:es.size=kvs.length:=by
    have a1:=size_of_entries g4
    have a2:=Prd.len PK
    omega
   have l63:(kvs.length:Int)<2 ^ 63:=by rw[Uy] at h2; omega
   have ask:∀ A' E',Vf (Vm X.prog X.w) A' (Builtin.«dict.__len__» ⟨[.ref a],[]⟩) (fun fin s'=>∃ r,fin=.done (.ret r)/\r=.int kvs.length s.toks/\s'={ s with toks:=s.toks+1 }) E' s:=by
    intro A' E'
    show Vf _ _ (dictSize a >>= _) _ _ s
    unfold dictSize
    refine Va (Va (Uat g1 g3 (Vc (Va (wpAny_pendingCount_other h1 (wpAny_ret_mkInt ?_))))))
    rw[Wfo,sz]
    exact⟨rfl,rfl⟩
   refine Calls.call_function_entry kind_len plain_len entry_len (args_len1 _) ?_
   unfold Builtin.«len»
   refine Va (m:=oneArg "len" _) (Vc (Va (m:=callSpecial? (.ref a) (Ua "__len__")) (Vi (name:=Ua "__len__") ty Tbx
    (Vp Tbx ty PySem.F.entry_dict_len (thn (ask _ _) fun fin s' ⟨r,f1,f2,f3⟩=>⟨r,f1,?_⟩) (PySem.F.args_dict_len_1 _)))))
   subst f2 f3
   refine Va (Vw (Vc (Va (Ubp ?_))))
   show Vf _ _ (if ((kvs.length:Nat):Int)<0 then _ else if ((kvs.length:Nat):Int) ≥ 2 ^ 63 then _ else _) _ _ _
   rw[if_neg (by omega),if_neg (by omega)]
   exact Va (Ueh (Vc ⟨_,rfl,.int kvs.length,H,I.tok _,⟨_,rfl⟩,q _ H ι Le.refl hr (by simp)⟩))
 ·cases e
section
variable {prog:Vh} {w:Vu} {A:Vt} {E:Vb->Vd->Prop} {s:Vd}
theorem Zp3 {d:Ve} {ob:Obj} {es:Array Uak} {ep:Nat} {Q:Vb->Vd->Prop} (h0:(d==Uad)=false) (g1:s.heap.get? d=some ob) (g2:ob.ExactDict) (g3:ob.data=.dict es ep)
  (q:Q (.ref s.heap.objs.size) { s with heap:=s.heap.push { cls:=.type "dict_keyiterator",data:=.fields #[.ref d,.int 0 0,.int es.size 0,.int ep 0] } }):Vf (Vm prog w) A (pyIter (.ref d)) Q E s:=by
 have ty:s.TypeIs (.ref d) "dict" := ⟨ob,g1,g2.1⟩
 refine wpAny_pyIter_slot ty F.slot_dict_iter (Vp F.slot_dict_iter ty F.entry_dict_iter ?_ (F.args_dict_iter_1 _))
 unfold Builtin.«dict.__iter__» Builtin.Dict.dictSlotNone
 refine Va (Va (Ucs ty (Vc ?_)))
 show Vf _ _ (Tby d >>= _) _ _ s
 unfold Tby
 rw[if_neg (by rw[h0]; decide)]
 refine Va (Vc (Va (Uat g1 g3 (Va (Uct g1 g3 (Va (Vs (Vc ?_))))))))
 exact⟨_,rfl,"dict_keyiterator",_,⟨_,Xe _ rfl,rfl⟩,Um.lookup,by simpa [Uaa] using q⟩
theorem Zsk {d it:Ve} {ob:Obj} {es:Array Uak} {i ep:Nat} {Q:Option Vb->Vd->Prop} (hit:s.heap.IsKeyIter it d i es.size ep) (g1:s.heap.get? d=some ob) (g3:ob.data=.dict es ep) (lt:i<es.size)
  (q:∀ h2,h2.IsKeyIter it d (i+1) es.size ep->Xz it s.heap h2->Q (some es[i].key) { s with heap:=h2 }):Vf (Vm prog w) A (Ubj (.ref it)) Q E s:=by
 have ty:=hit.typeIs
 obtain⟨oi,i1,i2,i3⟩:=id hit
 have own:Taw "dict_keyiterator" = false:=by decide
 unfold Ubj
 refine Va (Uam (Vi (name:=Ua "__next__") ty Um (Vp Um ty Tat ?_ (Tar _))))
 refine Va (Vc (Va (Va ?_)))
 refine Va (Uab ty (Vc (Va (wpAny_fieldsOf i1 i3 ?_))))
 simp only[own,Wan,if_false]
 show Vf _ _ (if (Uw d==Uq)=true then _ else _) _ _ s
 have nn:¬ ((Uw d==Uq)=true):=Wbj
 rw[if_neg nn]
 refine Va (Vc (Va (Uat g1 g3 ?_)))
 rw[if_neg (by simp)]
 refine Va (Vc (Va (Uct g1 g3 ?_)))
 rw[if_neg (by simp)]
 refine Vc ?_
 have neg:¬ ((i:Int)<0):=by omega
 simp only[neg,if_false,Wag,Wco lt]
 refine Va (Va (Uab ty (Vc (Va (Ucu ty ?_)))))
 show Vf _ _ (Udr (.ref it) 1 (Uaa ((i:Int)+1)) >>= _) _ _ s
 let h2:=s.heap.update it (Obj.mapFields (·.setIfInBounds 1 (Uaa ((i:Int)+1))))
 have it2:h2.IsKeyIter it d (i+1) es.size ep :=
  ⟨_,Wdf _ i1 (Tbv (Tao i3 _)),(Tck ..).trans i2,by rw[Tao i3]; simp[Uaa]⟩
 refine Va (Ubv i1 i3 (by simp) (Va (Vw (Va (Ucu (s:={ s with heap:=h2 }) it2.typeIs ?_)))))
 show Vf _ _ (pure es[i].key) _ _ _
 exact Vc (Vc ⟨_,rfl,Vc (q h2 it2 (Xz.update ..))⟩)
theorem Zox {d it:Ve} {ob:Obj} {es:Array Uak} {i ep:Nat} {Q:Option Vb->Vd->Prop} (hh:A.handled=none) (hit:s.heap.IsKeyIter it d i es.size ep) (g1:s.heap.get? d=some ob) (g3:ob.data=.dict es ep) (ge:es.size<=i)
  (q:∀ h2,Wdo it s.heap h2->Q none { s with heap:=h2 }):Vf (Vm prog w) A (Ubj (.ref it)) Q E s:=by
 have ty:=hit.typeIs
 obtain⟨oi,i1,i2,i3⟩:=id hit
 have own:Taw "dict_keyiterator" = false:=by decide
 unfold Ubj
 refine Va (Uam (Vi (name:=Ua "__next__") ty Um (Vp Um ty Tat ?_ (Tar _))))
 refine Va (Vc (Va (Va ?_)))
 refine Va (Uab ty (Vc (Va (wpAny_fieldsOf i1 i3 ?_))))
 simp only[own,Wan,if_false]
 show Vf _ _ (if (Uw d==Uq)=true then _ else _) _ _ s
 have nn:¬ ((Uw d==Uq)=true):=Wbj
 rw[if_neg nn]
 refine Va (Vc (Va (Uat g1 g3 ?_)))
 rw[if_neg (by simp)]
 refine Va (Vc (Va (Uct g1 g3 ?_)))
 rw[if_neg (by simp)]
 refine Vc ?_
 have neg:¬ ((i:Int)<0):=by omega
 simp only[neg,if_false,Wag,Wdb ge]
 refine Va (Va (Uab ty (Vc ?_)))
 show Vf _ _ (Udr (.ref it) 0 .none >>= _) _ _ s
 refine Va (Ubv i1 i3 (by simp) ?_)
 show Vf _ _ (newExc (.type "StopIteration") [] >>= _) _ _ _
 simp only[newExc,newTuple]
 refine Va (Va (Vs (Va (m:=Ubw _ _) (Ueg (a:=Uq) (by first | rfl | (simp only[Ubw]; rfl)) (Vs ?_ (by size_fits)))) (by size_fits)))
 simp only[raiseNew]
 refine Va (wpAny_handled ?_)
 have hh1:A.in1.handled=none:=hh
 rw[hh1]
 refine Va (Vc (wpAny_throw ?_))
 refine Va (Ubk (T := "StopIteration") (b:=true) (by exact⟨_,Xe _ rfl,rfl⟩) Ubx ?_)
 exact Vc (q _ (((Xz.update ..).extBut.push _).push _))
end
nonrec def Itd (a:Ve) (ob:Obj) (u:HO) (ks:List Ve):It :=
 ⟨fun i H=>H a=some (.frz ob u)/\i<ks.length,fun i H x H'=>H'=H/\∃ b,ks[i]? = some b/\x=.ref b,fun i H=>H a=some (.frz ob u)/\ks.length<=i⟩
theorem Zv4 {P:Vh} {w:Vu} {K:Xb} {tg:Vv} (a it:Ve) {ob:Obj} {u:HO} {es:Array Uak} {ep:Nat} {ks:List Ve} (g3:ob.data=.dict es ep) (hk:es.toList.map (·.key)=ks.map Uw) :
  Turn P w K tg (Itd a ob u ks) [it] it (fun i h=>h.IsKeyIter it a i es.size ep) where
 mem:=by simp
 obj:=fun i h st b hb=>by
  have e:b=it:=by simpa using hb
  subst e
  obtain⟨o,e,c,d⟩:=st
  exact⟨o,e,fun v z=>by rw[d] at z; cases z⟩
 keep:=fun i h h' st k=>st.at fun o e=>k it (by simp) o e
 item:=by
  intro X hP hw hK hc i pins s σ H E I hf st hg
  subst hP hw hK
  obtain⟨hq,hx⟩:=hg
  obtain⟨g1,_⟩:=(show Zc9 X.prog X.w H s.heap a (.frz ob u) from I.hok a _ hq)
  obtain⟨f0,f1,f2,f3,f4,f5⟩:=hf it (by simp)
  have hl:es.size=ks.length:=by
   have:=congrArg Wbo hk
   simpa using this
  have lt:i<es.size:=by omega
  have key:es[i].key=Uw ks[i]:=by
   have e1:(es.toList.map (·.key))[i]? = some es[i].key:=by simp[lt]
   rw[hk,Xp,Xn hx] at e1
   exact(Xy.inj e1).symm
  refine Zsk st g1 g3 lt fun h' st' sb=>?_
  have I1:Inv X pins σ H { s with heap:=h' }:=I.turned (t':=s.toks) (fun b o hb e=>(sb.2 b hb).trans e) f0 f1 f3 f4 f5
  obtain⟨o,e,c,d⟩:=id st'
  exact⟨_,rfl,Zup (s:={ s with heap:=h' }) e c d (by decide) ⟨.ref ks[i],H,I1,key,⟨rfl,ks[i],Xn hx,rfl⟩,st',fun b hb=>(hf b hb).1⟩⟩
 done:=by
  intro X hP hw hK hc i pins s σ H E I hf st hg
  subst hP hw hK
  obtain⟨hq,hx⟩:=hg
  obtain⟨g1,_⟩:=(show Zc9 X.prog X.w H s.heap a (.frz ob u) from I.hok a _ hq)
  obtain⟨f0,f1,f2,f3,f4,f5⟩:=hf it (by simp)
  have hl:es.size=ks.length:=by
   have:=congrArg Wbo hk
   simpa using this
  exact Zox (I.ok.hd hc) st g1 g3 (by omega) fun h' eb=>⟨rfl,I.turned (t':=s.toks) (fun b o hb e=>eb b o hb e) f0 f1 f3 f4 f5⟩
 self:=fun _ _ _ _ _ st h=>Ucz st h
variable {X:Cx} {tg:Vv}
nonrec def Zyo (f:EF):ItF:=fun σ H=>(f σ H).bind fun p=>match p.1 with
 | .ref n=>match p.2[n]? with
  | some (.dic kvs _)=>some ((kvs.map (·.1),[(n,.dic kvs true)]),p.2.set n (.dic kvs true))
  | _=>none
 | _=>none
theorem Zs0 {K:Xb} {H:Hp} {ι:List Ve} {kvs:List (D×D)} {xs:List (List Int×Ve×Vb)} (h:Vj (Zrk K H ι) kvs xs):Vj (Rep K H ι) (kvs.map (·.1)) (xs.map fun x=>V.ref x.2.1):=by
 induction h with
 | nil=>exact .nil
 | cons r t ih=>exact .cons r.2.1 ih
theorem Ztc {l:Vv} {f:EF} (hl:PEf X l f):PIf X tg l (Zyo f):=by
 rintro pins s σ H R I ⟨ι,σd,Hd,xs,own,Hd',sr,hr,e,q⟩
 obtain⟨⟨x,H1⟩,e1,e⟩:=Zo e
 obtain⟨n,rfl⟩:∃ n,x=.ref n:=by cases x<;>first | exact⟨_,rfl⟩ | cases e
 let P1:VK:=fun v1 H1'=>∃ ι1,Le X.K H ι H1' ι1/\HRep X.K H1' ι1 H1/\Rep X.K H1' ι1 (.ref n) v1
 refine thn (hl pins s σ H P1 I ⟨ι,σd,Hd,.ref n,H1,sr,hr,e1,fun v1 H1' ι1 l1 h1 r1=>⟨ι1,l1,h1,r1⟩⟩) fun v s1 zz=>?_
 obtain⟨xv,H1',I1,rx,ι1,l1,h1,r1⟩:=zz
 simp only at e
 split at e
 ·rename_i kvs fz hn
  cases e
  obtain⟨a,rfl,ha⟩:=Za0.mp r1
  cases rx
  obtain⟨z1,z2,ys,z3,PK,dd⟩:=Zh9 I1 (h1.obj n a _ ha hn)
  obtain⟨ob,es,ep,g1,g2,g3,g4,g5,g6⟩:=dd
  refine Zp3 z1 g1 g2 g3 ?_
  let u:HO:=.ext (Zda a ys)
  let H2:Hp:=upd H1' a (.frz ob u)
  have keys:es.toList.map (·.key)=(ys.map fun x=>x.2.1).map Uw:=by rw[g4,Wbt,Wbt]; rfl
  have da:Zda a ys s1.heap:=⟨ob,es,ep,g1,g2,g3,g4,g6⟩
  have okN:∀ Hx,Zc9 X.prog X.w Hx s1.heap a (.frz ob u):=fun Hx=>⟨g1,da,⟨ob,g1⟩,fun h1 h2 d k=>Zda.keep d k⟩
  have froz:Inv X pins σ H2 s1/\Le X.K H1' ι1 H2 ι1:=by
   cases fz with
   | false =>
    rw[if_neg (by simp)] at z3
    exact⟨I1.write (t':=s1.toks) (h':=s1.heap) (x:=a) (e:=a) (by rw[z3]; exact Tay) (.inl rfl) (fun b q hb z=>z) ⟨ob,g1⟩ (okN _),Le.upd (Xu ha) z3 trivial _⟩
   | true =>
    rw[if_pos rfl] at z3
    obtain⟨o2,z3⟩:=z3
    obtain⟨g1',_⟩:=(show Zc9 X.prog X.w H1' s1.heap a (.frz o2 (.ext (Zda a ys))) from I1.hok a _ z3)
    have eo:o2=ob:=Xy.inj (g1'.symm.trans g1)
    have eH:H2=H1':=by
     funext b
     by_cases hb:b=a
     ·subst hb; show upd H1' b (.frz ob u) b=H1' b; rw[Zaq,z3,eo]
     ·exact Zah hb
    rw[eH]
    exact⟨I1,Le.refl⟩
  obtain⟨I2,L2'⟩:=froz
  have hr2:HRep X.K H2 ι1 (H1.set n (.dic kvs true)):=by
   refine⟨by simp[h1.len],h1.nd,fun m b oc m1 m2=>?_⟩
   by_cases hm:n=m
   ·subst hm
    rw[ha] at m1; cases m1
    rw[Wdd] at m2
    rw[if_pos rfl] at m2
    split at m2
    ·cases m2
     exact⟨z1,z2,ys,by rw[if_pos rfl]; exact⟨ob,Zaq⟩,Prd.imp PK fun p x _ z=>⟨z.1,z.2.1.mono L2',let ⟨v,w1,w2⟩:=z.2.2; ⟨v,w1,w2.mono L2'⟩⟩⟩
    ·cases m2
   ·rw[Wal hm] at m2
    have hb:b≠a:=fun z=>by
     subst z
     exact hm ((Wfi (Xc.mp ha).1 h1.nd).mp (ha.trans m1.symm))
    exact(h1.obj m b oc m1 m2).step L2'.toLw (Zah hb)
  have I3:Inv X pins σ H2 { s1 with heap:=s1.heap.push { cls:=.type "dict_keyiterator",data:=.fields #[.ref a,.int 0 0,.int es.size 0,.int ep 0] } }:=I2.kept (t':=s1.toks) fun b o e=>Xa _ e
  refine⟨s1.heap.objs.size,[s1.heap.objs.size],_,Itd a ob u (ys.map fun x=>x.2.1),H2,rfl,I3,Zv4 a _ g3 keys,⟨_,Xe _ rfl,rfl,rfl⟩,fun b hb=>?_,?_⟩
  ·have e:b=s1.heap.objs.size:=by simpa using hb
   subst e
   exact I2.fpOk (Xd _) (I2.hok.fresh (Xd _))
  ·have fa:H2 a=some (.frz ob u):=Zaq
   have pk:=Zs0 PK
   refine q _ H2 ι1 (l1.trans L2') hr2 ⟨fun i H3 ι3 Hd3 l3 h3 _ hi=>⟨l3.fr _ _ _ fa,?_⟩,fun i H3 ι3 Hd3 d x H4 l3 h3 _ hd y=>?_,fun i H3 ι3 Hd3 l3 h3 _ hi=>⟨l3.fr _ _ _ fa,?_⟩⟩
   ·have:=Prd.len PK; simp only[Xk] at hi ⊢; omega
   ·obtain⟨rfl,b,hb,rfl⟩:=y
    obtain⟨v,hv,rv⟩:=Prd.get pk hd
    have ev:v=.ref b:=by
     rw[Xp] at hv hb
     cases hy:ys[i]? with
     | none=>rw[hy] at hv; cases hv
     | some yv=>rw[hy] at hv hb; cases hv; cases hb; rfl
    subst ev
    exact⟨ι3,Le.refl,h3,(rv.mono L2').mono l3⟩
   ·have:=Prd.len PK; simp only[Xk] at hi ⊢; omega
 ·cases e
nonrec def Zlg (n N:Nat) (b:FF->SF):Nat->FF
 | 0=>Zbd n N fun _ _=>none
 | j+1=>Zbd n N (b (Zlg n N b j))
theorem Zth {P:Vh} {w:Vu} {K:Xb} {mg:Str->Option Vb} {base:Vz} {x:Str} {st:Uae} {N ps:List Str} {k:Nat} {b:FF->SF} (T:Tf K mg x st) (S:FnScope N ps (Zad st))
  (hbd:∀ (kV doc pm:Vb) (an:Option Ve) (cdv ct:Vb) (us:List Vb),us.length=ps.length->Uby (Wbc x x (Zck st) (Za7 st) (Zad st) .none kV doc pm an cdv ct) ⟨us,[]⟩=pure (ps.zip us))
  (hb:∀ (F:FF) (j:Nat),Fn P w K mg base (k+1+j) x ps F->∀ (f:Ve) (cdv:Vb) (A:Vt) (outer:List Env) (s:Vd) (H:Hp) (E:XK),Room (k+1+j) (A.deeper (Ubc x (Zad st) s.heap.objs.size f cdv)) ->
   Znr (Zln CX0 P w K mg base N x (Zad st) f cdv A outer s H E).nox (Za7 st) (b F)):∀ j,Fn P w K mg base (k+1+j) x ps (Zlg ps.length N.length b j)
 | 0=>Zbi (k:=k) T S hbd fun f cdv A outer s H E _=>by
  rintro pins s' σ H' E' I ⟨ι,σd,Hd,fl,σd',Hd',_,_,e,_⟩
  cases e
 | j+1=>Zbi (k:=k+1+j) T S hbd fun f cdv A outer s H E hr=>hb _ j (Zth T S hbd hb j) f cdv A outer s H E hr
theorem Zu4 {K:Xb} {h:Vz} {mg:Str->Option Vb} {x:Str} {b1 b2:Bool} {p:Ve} {n:Nat} {osl:Array (Option Vb)} (X:K.In h) (G:h.Ns Vl mg) (a:Wcq K Vl x=some (some (.ref p)))
  (l:K.lookup p=some ⟨.type "tuple",none,.seq #[.bool b1,.bool b2] n,osl⟩):Gc K mg x (.tup [.bl b1,.bl b2]):=by
 refine⟨_,.ref p,Wfd X G a,rfl,fun H ι=>Zbc.mpr ⟨p,[.bl b1,.bl b2],rfl,.inr ⟨_,_,_,l,rfl,rfl,?_,?_,rfl⟩,?_⟩⟩
 ·show 2<=sizeLine
  rw[Uy]; omega
 ·exact .cons rfl (.cons rfl .nil)
 ·exact .cons (by simp) (.cons (by simp) .nil)
section
variable {prog:Vh} {w:Vu} {A:Vt} {E:Vb->Vd->Prop} {s:Vd}
theorem Zyu {T newId:String} {self a:Vb} {kw:List (Str×Vb)} (hl:typeLookup (.type T) "__init__" = pure (some (.builtin "object.__init__")))
  (hm:Bind.madeBy (.type T)=pure (some newId)) (hne:(some newId != some "object.__new__")=true) :
  Uek (Builtin.«object.__init__» ⟨[self,a],kw⟩) (fun _ R s=>s.TypeIs self T/\R (.ok (.ret .none)) s):=by
 refine Meets.of_wp fun prog w A R s zz=>?_
 obtain⟨hT,hq⟩:=zz
 repeat (any_goals (first | assumption | wp_step))
 exact⟨_,rfl,hq⟩
theorem tc_kw (a v:Vb):checkTypeCall "enumerate" ⟨[a],[("start",v)]⟩=pure ():=by kernel_rfl
theorem nc_kw (a v:Vb):checkBuiltinCall "enumerate.__new__" ⟨[.type "enumerate",a],[("start",v)]⟩=pure ():=by kernel_rfl
open AutoSeq1 (wpAny_loadPart') in
theorem Ztu (t:Ve) (its:Array Vb) (n:Nat) (dct:Option Ve) (sl:Array (Option Vb)) (tk0:Tok) :
  Uek (Builtin.«enumerate.__new__» ⟨[.type "enumerate",.ref t],[("start",.int 1 tk0)]⟩) (fun _ R s=>s.heap.get? t=some { cls:=.type "tuple",dict:=dct,data:=.seq its n,slots:=sl } /\
   R (.ok (.ret (.ref (s.heap.push { cls:=.type "tuple_iterator",data:=.fields #[.ref t,.int 0 0] }).objs.size)))
    { s with heap:=(s.heap.push { cls:=.type "tuple_iterator",data:=.fields #[.ref t,.int 0 0] }).push { cls:=.type "enumerate",data:=.fields #[.none,.bool false,.ref s.heap.objs.size,Uaa 1,.none,.none] } }) :=
 .of_wp fun prog w A R s h=>by
  obtain⟨hp,g,d,tk,os⟩:=s; obtain⟨hl,h⟩:=h
  have hsub:=Uds
  have hL:Heap.IsTuple (Tbq ⟨hp,g,d,tk,os⟩) t its:=⟨_,hl,rfl,n,rfl⟩
  wp_walk using Vo hl
  refine Ucr fun st=>Vc ?_
  split
  ·rename_i k _ _ _ _ _
   cases (k==Tbn "enumerate")<;>(wp_walk using Vo hl,Uag hL; exact⟨_,rfl,h⟩)
  ·wp_walk using Vo hl,Uag hL
   exact⟨_,rfl,h⟩
end
section
variable {prog:Vh} {w:Vu} {A:Vt} {E:Vb->Vd->Prop} {s:Vd}
theorem Zzj {args:List Vb} {kw:List (Str×Vb)} {newId:String} {Bn:Builtin} {T:String} {S:Tad} {Q:Vb->Vd->Prop} (ft:TypeCalled T newId "object.__init__") (hne:(some newId != some "object.__new__")=true)
  (hct:checkTypeCall T ⟨args,kw⟩=pure ()) (hcn:checkBuiltinCall newId ⟨.type T::args,kw⟩=pure ()) (entryN:entryFor table newId=some Bn) (g:Uek (Bn ⟨.type T::args,kw⟩) S)
  (hok:∀ obj,argsOk "object.__init__" ⟨obj::args,kw⟩) (gi:∀ obj,Uek (Builtin.«object.__init__» ⟨obj::args,kw⟩) (fun _ R s=>s.TypeIs obj T/\R (.ok (.ret .none)) s))
  (h:S A.in1 (wants (fun obj s₁=>s₁.TypeIs obj T/\Q obj s₁) E) s):Vf (Vm prog w) A (call (.type T) args kw) Q E s:=by
 obtain⟨c,tl,hmro⟩:=ft.mro
 have hmade:=ft.made
 have hsub:=ft.sub
 have n1:=ft.notType
 have n2:=ft.canCreate
 refine wpAny_call (codeAny_of_tree (show Vf _ _ (callAny (.type T) _) _ _ _ from Vc ⟨Tbk _ (by decide +kernel),Ube F.entry_type_call ?_⟩))
 rw[Around.under_plain (weight_type_call_type T args kw) (units_type_call_type T args kw)]
 repeat (any_goals (first | assumption | wp_step))
 refine Uax (Uda ft.plain entryN (Ueg hcn (g prog w A.in1 _ s h))) fun r s₁ hr=>?_
 cases r with
 | error e=>exact hr
 | ok fl =>
  cases fl with
  | ret obj =>
   obtain⟨hT,hq⟩:s₁.TypeIs obj T/\Q obj s₁:=hr
   have hli:=ft.init.lookup
   have hbi:=ft.init.bind obj
   repeat (any_goals (first | assumption | wp_step))
   refine Uax (Uda ft.init.plain F.entry_object_init (ft.init.check _ _ _ _ _ _ _ _ hT (hok obj) (gi obj prog w A.in1 (wants (fun r s₂=>r=.none/\Q obj s₂) E) s₁ ⟨hT,rfl,hq⟩))) fun r₂ s₂ hr₂=>?_
   cases r₂ with
   | error e=>exact hr₂
   | ok fl₂ =>
    cases fl₂ with
    | ret r =>
     obtain⟨rfl,hq2⟩:=hr₂
     repeat (any_goals (first | assumption | wp_step))
    | _=>exact hr₂.elim
  | _=>exact hr.elim
theorem Zjr {M:Model} {pos:Pos} {T:String} {args:List (Bool×Sem Vb)} {kws:List (Option Str×Sem Vb)} {Q:Vb->Vd->Prop} (h1:args.any (·.1)=false) (h2:kws.any (·.1.isNone)=false)
  (h:Vf M A (evalArgs (.type T) true args kws) (fun a s₁=>Vf M A (call (.type T) a.pos a.kw) Q E s₁) E s):Vf M A (Uea pos (.type T) [] args kws) Q E s:=by
 unfold Uea
 refine Va (Vw (thn h fun a s₁ q=>Va (Ubn ?_)))
 simp only[h1,h2,Bool.or_false]
 exact Va (Vc (Va (thn q fun r s₂ q2=>Va (Vw (wpAny_point (Vc q2))))))
theorem Zs3 (a b v:Vb):argsOk "object.__init__" ⟨[a,b],[("start",v)]⟩:=by
 unfold argsOk
 first | decide +kernel | kernel_rfl | (intro _; kernel_rfl)
theorem Zq4 {t:Ve} {its:Array Vb} {tk:Tok} {Q:Vb->Vd->Prop} (hL:s.heap.IsTuple t its)
  (h:∀ h',Uau h' (s.heap.objs.size+1) s.heap.objs.size 1 .none->h'.IsTupleIter s.heap.objs.size t 0->h'.objs.size=s.heap.objs.size+2 ->
   (∀ b o,s.heap.get? b=some o->h'.get? b=some o)->Q (.ref (s.heap.objs.size+1)) { s with heap:=h' }) :
  Vf (Vm prog w) A (call (.type "enumerate") [.ref t] [("start",.int 1 tk)]) Q E s:=by
 obtain⟨⟨k,dct,dt,sl⟩,hl,hc,n,hd⟩:=hL
 replace hc:k=.type "tuple" := hc
 replace hd:dt=.seq its n:=hd
 subst hc hd
 refine Zzj Taf (by decide) (tc_kw _ _) (nc_kw _ _) Taq (Ztu t its n dct sl tk) (fun obj=>Zs3 _ _ _) (fun obj=>Zyu Taf.init.lookup Taf.made (by decide)) ⟨hl,?_⟩
 have hz:(s.heap.push { cls:=.type "tuple_iterator",data:=.fields #[.ref t,.int 0 0] }).objs.size=s.heap.objs.size+1:=Wao ..
 show _/\_
 rw[hz]
 have he:Uau ((s.heap.push { cls:=.type "tuple_iterator",data:=.fields #[.ref t,.int 0 0] }).push { cls:=.type "enumerate",data:=.fields #[.none,.bool false,.ref s.heap.objs.size,Uaa 1,.none,.none] }) (s.heap.objs.size+1) s.heap.objs.size 1 .none:=by
  have q:=Xe (s.heap.push { cls:=.type "tuple_iterator",data:=.fields #[.ref t,.int 0 0] }) (o:={ cls:=.type "enumerate",data:=.fields #[.none,.bool false,.ref s.heap.objs.size,Uaa 1,.none,.none] }) rfl
  rw[hz] at q; exact q
 exact⟨⟨_,he,rfl⟩,h _ he ⟨_,Xa _ (Xe _ rfl),rfl,rfl⟩ (by rw[Wao,hz]) fun b o x=>Xa _ (Xa _ x)⟩
end
variable {X:Cx}
nonrec def Zps (f:AF):ItF:=fun σ H=>(f σ H).bind fun p=>match p.1 with
 | [.tup xs]=>some ((Zcs 1 xs,[]),p.2)
 | _=>none
theorem Zuq {es:List Vv} {k:Nat} {tp p pos kp cp:Pos} {cj:Nat} {a:Vv} {f:AF} (hg:Gl X "enumerate") (hm:X.mg "enumerate" = none) (ha:PAf X [a] f) (hs:Vg [a] X.env=[(false,eval a X.env)]:=by rfl) :
  PIf X (.Tuple es k tp) (.Call (.Name "enumerate" p) [a] [⟨some "start",.Constant (.int 1) cj cp,kp⟩] pos) (Zps f):=by
 rintro pins s σ H R I ⟨ι,σd,Hd,xs,own,Hd',sr,hr,e,q⟩
 obtain⟨⟨ds,H1⟩,e1,e⟩:=Zo e
 dsimp only at e
 split at e
 ·rename_i ys
  cases e
  show Vf _ _ (do Uea pos (<- eval (.Name "enumerate" p) X.env) [] (Ual pos (Vg [a] X.env)) (Ucw pos (Ubh [⟨some "start",.Constant (.int 1) cj cp,kp⟩] X.env))) _ _ _
  let P1:List V->Hp->Prop:=fun vs H'=>∃ ad ws,vs=[.ref ad]/\SqT X.K H' ad ws/\∀ (J:It) (H2:Hp),H2=H'->J=Yaq X.K 1 ad->R J H2
  refine Va (Zec I hg hm Udf (Zjr (by rw[hs]; rfl) rfl ?_))
  have hA:=ha pos pins s σ H P1 I ⟨ι,σd,Hd,_,_,sr,hr,e1,fun vs H' ι' l h P=>by
   obtain⟨v,rfl,r⟩:=Zl0 P
   obtain⟨ad,ws,rfl,hS,P2⟩:=Zbc.mp r
   refine⟨ad,ws,rfl,hS,fun J H2 e2 e3=>?_⟩
   subst e2 e3
   exact q _ _ ι' l h (Zpo hS P2 fun i H x y h=>y ws h)⟩
  rw[hs] at hA ⊢
  refine Udy rfl (thn hA fun us s1 zz=>?_)
  obtain⟨vs,H2,I2,r2,ad,ws,e2,hS,q2⟩:=zz
  subst e2
  obtain⟨u,rfl,ru⟩:=Zhp r2
  cases ru
  refine kws_cons (thn (Zx7 pins s1 σ H2 (fun x H'=>x=.int 1/\H'=H2) I2 ⟨rfl,rfl⟩) fun v s2 ⟨x,H3,I3,rx,ex,eH⟩=>kws_nil ?_)
  subst ex eH
  obtain⟨t,rfl⟩:=rx
  obtain⟨its,rv,p,hz⟩:=I3.tuple hS
  show Vf _ _ (call (.type "enumerate") [.ref ad] [("start",.int 1 t)]) _ _ _
  refine Zq4 (show s2.heap.IsTuple ad its.toArray from p) fun h' he hj z' kk=>?_
  have I4:Inv X pins σ H3 { s2 with heap:=h' }:=I3.kept (t':=s2.toks) kk
  refine Uar (s:={ s2 with heap:=h' }) he ?_
  have ne:s2.heap.objs.size+1≠s2.heap.objs.size:=Weg _
  refine⟨s2.heap.objs.size+1,[s2.heap.objs.size+1,s2.heap.objs.size],_,Yaq X.K 1 ad,H3,rfl,I4,Zj6 ad _ _ 1 ne,⟨.none,by simpa using he,hj⟩,fun b hb=>?_,q2 _ _ rfl rfl⟩
  have:s2.heap.objs.size<=b:=by
   rcases Xh.mp hb with rfl | hb
   ·exact Wdp _
   ·have:b=s2.heap.objs.size:=by simpa using hb
    rw[this]; exact Xd _
  exact I3.fpOk (b:=b) (H':=H3) this (I3.hok.fresh this)
 ·cases e
variable {X:Cx} {tg:Vv}
nonrec def Zem (n1 N1 n2 N2:Nat) (a b:FF->FF->SF):Nat->FF×FF
 | 0=>(Zbd n1 N1 fun _ _=>none,Zbd n2 N2 fun _ _=>none)
 | j+1=>(Zbd n1 N1 (a (Zem n1 N1 n2 N2 a b j).1 (Zem n1 N1 n2 N2 a b j).2),Zbd n2 N2 (b (Zem n1 N1 n2 N2 a b j).1 (Zem n1 N1 n2 N2 a b j).2))
theorem Zod {P:Vh} {w:Vu} {K:Xb} {mg:Str->Option Vb} {base:Vz} {x y:Str} {st su:Uae} {N1 ps N2 qs:List Str} {k:Nat} {a b:FF->FF->SF} (T:Tf K mg x st) (S:FnScope N1 ps (Zad st))
  (hbd:∀ (kV doc pm:Vb) (an:Option Ve) (cdv ct:Vb) (us:List Vb),us.length=ps.length->Uby (Wbc x x (Zck st) (Za7 st) (Zad st) .none kV doc pm an cdv ct) ⟨us,[]⟩=pure (ps.zip us))
  (T2:Tf K mg y su) (S2:FnScope N2 qs (Zad su))
  (hbd2:∀ (kV doc pm:Vb) (an:Option Ve) (cdv ct:Vb) (us:List Vb),us.length=qs.length->Uby (Wbc y y (Zck su) (Za7 su) (Zad su) .none kV doc pm an cdv ct) ⟨us,[]⟩=pure (qs.zip us))
  (hb:∀ (F1 F2:FF) (j:Nat),Fn P w K mg base (k+1+j) x ps F1->Fn P w K mg base (k+1+j) y qs F2->∀ (f:Ve) (cdv:Vb) (A:Vt) (outer:List Env) (s:Vd) (H:Hp) (E:XK),Room (k+1+j) (A.deeper (Ubc x (Zad st) s.heap.objs.size f cdv)) ->
   Znr (Zln CX0 P w K mg base N1 x (Zad st) f cdv A outer s H E).nox (Za7 st) (a F1 F2))
  (hb2:∀ (F1 F2:FF) (j:Nat),Fn P w K mg base (k+1+j) x ps F1->Fn P w K mg base (k+1+j) y qs F2->∀ (f:Ve) (cdv:Vb) (A:Vt) (outer:List Env) (s:Vd) (H:Hp) (E:XK),Room (k+1+j) (A.deeper (Ubc y (Zad su) s.heap.objs.size f cdv)) ->
   Znr (Zln CX0 P w K mg base N2 y (Zad su) f cdv A outer s H E).nox (Za7 su) (b F1 F2)) :
  ∀ j,Fn P w K mg base (k+1+j) x ps (Zem ps.length N1.length qs.length N2.length a b j).1/\Fn P w K mg base (k+1+j) y qs (Zem ps.length N1.length qs.length N2.length a b j).2
 | 0=>by
  rw[Zem]
  dsimp only
  refine⟨Zbi (k:=k) T S hbd fun f cdv A outer s H E _=>?_,Zbi (k:=k) T2 S2 hbd2 fun f cdv A outer s H E _=>?_⟩
  ·rintro pins s' σ H' E' I ⟨ι,σd,Hd,fl,σd',Hd',_,_,e,_⟩
   cases e
  ·rintro pins s' σ H' E' I ⟨ι,σd,Hd,fl,σd',Hd',_,_,e,_⟩
   cases e
 | j+1=>by
  obtain⟨h1,h2⟩:=Zod T S hbd T2 S2 hbd2 hb hb2 j
  rw[Zem]
  dsimp only
  exact⟨Zbi (k:=k+1+j) T S hbd fun f cdv A outer s H E hr=>hb _ _ j h1 h2 f cdv A outer s H E hr,Zbi (k:=k+1+j) T2 S2 hbd2 fun f cdv A outer s H E hr=>hb2 _ _ j h1 h2 f cdv A outer s H E hr⟩
nonrec def sWh (t:TF) (b:SF):Nat->SF
 | 0=>fun _ _=>none
 | n+1=>fun σ H=>(t σ H).bind fun p=>if p.1=true then (b σ p.2).bind fun q=>match q.1 with
   | .nx=>sWh t b n q.2.1 q.2.2
   | .ct=>sWh t b n q.2.1 q.2.2
   | .bk=>some (.nx,q.2.1,q.2.2)
   | .rt d=>some (.rt d,q.2.1,q.2.2)
  else some (.nx,σ,p.2)
section
variable {X:Cx} {c:Vv} {pos:Pos}
theorem Zsn {body:List Uae} {t:TF} {b:SF} {n:Nat} (hp:Ued (Vm X.prog X.w) X.A X.env X.xe) (hc:PTf X c t) (hb:Znr X body b):PSf X (.While c body [] pos) (sWh t b n):=by
 refine PSi (Zw6 hp hc hb) fun E σ H zz=>?_
 obtain⟨ι,σd,Hd,fl,σf,Hf,s,hr,e,q⟩:=zz
 refine⟨fun m σ' H'=>∃ ι' σd' Hd',Le X.K H ι H' ι'/\SRep X.K H' ι' σ' σd'/\HRep X.K H' ι' Hd'/\sWh t b m σd' Hd'=some (fl,σf,Hf),⟨n,ι,σd,Hd,Le.refl,s,hr,e⟩,?_⟩
 rintro m σ1 H1 ⟨ι1,σd1,Hd1,l1,s1,h1,e1⟩
 cases m with
 | zero=>cases e1
 | succ m =>
  rw[sWh] at e1
  obtain⟨⟨x,H2⟩,e2,e1⟩:=Zo e1
  refine⟨ι1,σd1,Hd1,x,H2,s1,h1,e2,fun H3 ι3 l3 h3=>?_⟩
  cases x with
  | true =>
   rw[if_pos rfl]
   dsimp only at e1
   rw[if_pos rfl] at e1
   obtain⟨⟨f4,σ4,H4⟩,e4,e1⟩:=Zo e1
   refine⟨fun σ' H'=>∃ ι' σd' Hd',Le X.K H ι H' ι'/\SRep X.K H' ι' σ' σd'/\HRep X.K H' ι' Hd'/\sWh t b m σd' Hd'=some (fl,σf,Hf),fun σ' H' p=>⟨m,Nat.lt_succ_self m,p⟩,?_⟩
   refine⟨ι3,σd1,H2,f4,σ4,H4,s1.mono l3,h3,e4,fun σ6 H6 ι6 l6 h6 s6=>?_⟩
   have L:Le X.K H ι H6 ι6:=(l1.trans l3).trans l6
   cases f4 with
   | nx=>exact⟨ι6,σ4,H4,L,s6,h6,e1⟩
   | ct=>exact⟨ι6,σ4,H4,L,s6,h6,e1⟩
   | bk=>cases e1; exact q σ6 H6 ι6 L h6 s6
   | rt d=>cases e1; exact q σ6 H6 ι6 L h6 s6
  | false =>
   rw[if_neg (by simp)]
   dsimp only at e1
   rw[if_neg (by simp)] at e1
   cases e1
   exact q σ1 H3 ι3 (l1.trans l3) h3 (s1.mono l3)
end
nonrec def Zkc (h:Vz) (L:Ve):List (Ve×Obj):=(Wcp h.objs.size).filterMap fun a=>if a=L then none else (h.get? a).map fun o=>(a,o)
theorem Zme {h:Vz} {L b:Ve} {o:Obj} (hb:b≠L) (e:h.get? b=some o):(b,o)∈Zkc h L:=by
 refine Wcr.mpr ⟨b,Wbi.mpr (Xf e),?_⟩
 rw[if_neg hb,e]; rfl
theorem Zd5 {h:Vz} {L:Ve} {p:Ve×Obj} (hp:p∈Zkc h L):h.get? p.1=some p.2/\p.1≠L:=by
 obtain⟨a,_,e⟩:=Wcr.mp hp
 split at e
 ·cases e
 ·rename_i ne
  obtain⟨o,e1,rfl⟩:=Zm e
  exact⟨e1,ne⟩
theorem Zg2 (b:Ve):({}:Vz).get? b=none:=by
 cases e:({}:Vz).get? b with
 | none=>rfl
 | some o=>exact absurd (Xf e) (Nat.not_lt_zero _)
nonrec def Zgy (i:Int):Int:=if i<0 then -i else i
section
variable {prog:Vh} {w:Vu} {A:Vt} {E:Vb->Vd->Prop} {s:Vd}
theorem Zwa {l L:Ve} {vs:List Vb} {ns:List Int} {m:Str->Option Vb} {Q:Vb->Vd->Prop} (hn:s.heap.Ns L m) (hI:Ubd vs ns) (h64:vs.length<64)
  (hcol:∀ R:List Vb->Vd->Prop,R vs { s with heap:=(s.heap.push (Uav "list" #[] 0)).update s.heap.objs.size (Tax (· ++ vs.toArray)) }->Vf (Vm prog w) A.in1 (collect (.ref l)) R E s)
  (h:∀ h' tk out c,h'.Ns L m->(∀ b o,b≠L->s.heap.get? b=some o->h'.get? b=some o)->h'.get? (s.heap.objs.size+1)=some (Uav "list" out c)->KskOut false (ns.map Zgy) vs out.toList->Q (.ref (s.heap.objs.size+1)) { s with heap:=h',toks:=tk }) :
  Vf (Vm prog w) A (call (.builtin "sorted") [.ref l] [(Ua "key",.builtin "abs")]) Q E s:=by
 have sl:vs.length<=sizeLine:=by rw[Ubf]; omega
 have le:ns.length=vs.length:=hI.length.symm
 have lt:=hn.lt
 let h1:Vz:=(s.heap.push (Uav "list" #[] 0)).update s.heap.objs.size (Tax (· ++ vs.toArray))
 have z1:h1.objs.size=s.heap.objs.size+1:=(Heap.size_update ..).trans (size_push' ..)
 have at2:(h1.push (Uav "list" vs.toArray 0)).get? (s.heap.objs.size+1)=some (Uav "list" vs.toArray 0):=by rw[<- z1]; exact Xe _ rfl
 have kp:∀ b o,s.heap.get? b=some o->(h1.push (Uav "list" vs.toArray 0)).get? b=some o:=fun b o q=>by
  have hb:b<s.heap.objs.size:=Xf q
  refine Xa _ ?_
  show Heap.get? (Heap.update _ _ _) b=some o
  rw[Heap.get?_update_ne _ _ _ _ (Xi hb)]
  exact Xa _ q
 have F0:Fr {} L s.heap m:=⟨hn,fun b o e=>absurd ((Zg2 b).symm.trans e) (by simp),Wbb _⟩
 have N0:News {} L s.heap (Zkc s.heap L):=fun p hp=>⟨(Zd5 hp).1,(Zd5 hp).2,Zg2 _⟩
 refine Uci kind_sorted plain_sorted entry_sorted (ksk_s1 _ _) ?_
 unfold Builtin.«sorted»
 refine Va (m:=checkCount "sorted" 1 1 _) (Vc (Va (hcol _ (Va (Uca ?_ sl)))))
 show Vf _ _ _ _ _ { s with heap:=h1.push (Uav "list" vs.toArray 0) }
 rw[show ((s.heap.push (Uav "list" #[] 0)).update s.heap.objs.size (Tax (· ++ vs.toArray))).objs.size=s.heap.objs.size+1 from z1]
 refine Va (Vw (Udm slot_list_sort ⟨_,at2,rfl⟩ entry_list_sort ?body (ksk_l1 _ _)))
 case body =>
  show Vf (Vm prog w) A.in1.in1 (Builtin.«list.sort» ⟨[.ref (s.heap.objs.size+1)],[(Ua "key",.builtin "abs")]⟩) _ _ _
  rw[ksk_t4]
  refine ksk_sort (s:={ s with heap:=h1.push (Uav "list" vs.toArray 0) }) (kz:=ns.map Zgy) (news:=Zkc s.heap L) (F0.kept kp) (N0.grown kp) at2 (Wbr (Wbx lt)) (Zg2 _) (fun p hp=>Xi (Wbx (Xf (Zd5 hp).1)))
   (by rw[Xk]; exact le) h64 (fun i v k hv hk hh tk own F N=>?_) fun h' tk out c F' N' K'=>⟨_,rfl,?_⟩
  ·obtain⟨n,t,rfl,e⟩:=hI.at i v hv
   rw[Xp,e] at hk
   cases hk
   exact Udv fun u tk'=>Tcu F N fun p hp=>hp
  ·refine Vc ⟨_,rfl,h h' tk out c F'.ns (fun b o hb e=>?_) ?_ K'⟩
   ·exact(N' _ (Wak _ (Zme hb e))).1
   ·exact(N' _ (Wcf ..)).1
theorem Zn0 {l:Ve} {vs:List Vb} {R:List Vb->Vd->Prop} (ht:Uem s.heap l vs.toArray) (hz:vs.length<=sizeLine)
  (h:R vs { s with heap:=(s.heap.push (Uav "list" #[] 0)).update s.heap.objs.size (Tax (· ++ vs.toArray)) }):Vf (Vm prog w) A (collect (.ref l)) R E s:=by
 obtain⟨o,ho,hc,n,hd⟩:=ht
 have ho2:(s.heap.push (Uav "list" #[] 0)).get? l=some o:=Xa _ ho
 have hN:(s.heap.push (Uav "list" #[] 0)).get? s.heap.objs.size=some (Uav "list" #[] 0):=Xe _ rfl
 unfold collect
 refine Va (wpAny_runValue (Ube Udb (show Vf _ _ (do again (.builtin "list.__iadd__" ⟨[<- Uen [],.ref l],[]⟩)) _ _ s from Va (Uca (Vc ⟨Tbk _ (by decide +kernel),Ube entry_list_iadd' ?_⟩)))))
 show Vf _ _ (Us (.ref s.heap.objs.size) (.ref l) (.ref s.heap.objs.size)) _ _ { s with heap:=_ }
 unfold Us
 refine Va (Ucp (T := "tuple") ⟨o,ho2,hc⟩ ?_)
 rw[if_pos (by simp)]
 refine Va (listItems_at ho2 hd (Va (listItems_at (xs := #[]) (n:=0) hN rfl ?_)))
 rw[if_neg (by simp)]
 refine Va (listUpdate_at (xs := #[]) (n:=0) hN rfl (Vc ?_) (Wbb _) (by show ((#[]:Array Vb)++vs.toArray).size<=sizeLine+1; rw[Array.size_append,Xm]; exact Waf (by simp) (Nat.le_succ_of_le hz)))
 refine Va (wpAny_load (get?_update_seq hN _) ?_)
 show Vf _ _ (pure (((#[]:Array Vb)++vs.toArray).toList)) R E _
 rw[Wfe,List.toList_toArray]
 exact Vc h
end
theorem Zz8 {vs:List Vb} {ns:List Int} (h:Ubd vs ns):∀ p∈(ns.map Zgy).zip vs,∃ n t,p=(Zgy n,.int n t):=by
 induction h with
 | nil=>intro p hp; simp at hp
 | cons n t _ ih =>
  intro p hp
  rw[Xq,Wcg] at hp
  rcases Xh.mp hp with rfl | hp
  ·exact⟨n,t,rfl⟩
  ·exact ih p hp
nonrec def Yaw (p:Int×Vb):Int:=match p.2 with
 | .int n _=>n
 | _=>0
theorem Zzg {vs:List Vb} {ns:List Int} (h:Ubd vs ns):((ns.map Zgy).zip vs).map Yaw=ns:=by
 induction h with
 | nil=>rfl
 | cons n t _ ih=>rw[Xq,Wcg,Xq,ih]; rfl
theorem Zp6:∀ ps:List (Int×Vb),(∀ p∈ps,∃ n t,p=(Zgy n,.int n t))->Ubd (ps.map Prod.snd) (ps.map Yaw)/\(ps.map Yaw).map Zgy=ps.map Prod.fst
 | [],_=>⟨.nil,rfl⟩
 | p::ps,h=>by
  obtain⟨n,t,rfl⟩:=h p (by simp)
  obtain⟨a,b⟩:=Zp6 ps fun q hq=>h q (by simp[hq])
  exact⟨.cons n t a,by rw[Xq,Xq,Xq,b]; rfl⟩
nonrec def Zdb (ns:List Int):List Int:=ns.mergeSort fun a b=>decide (Zgy a<=Zgy b)
theorem Zch (ns:List Int):(Zdb ns).Perm ns:=List.mergeSort_perm ..
theorem Zpl (ns:List Int):(Zdb ns).Pairwise fun a b=>Zgy a<=Zgy b:=by
 have h:=List.pairwise_mergeSort (le:=fun a b:Int=>decide (Zgy a<=Zgy b)) (by intro a b c h1 h2; simp at *; omega) (by intro a b; simp; omega) ns
 exact h.imp (by intro a b h; simpa using h)
theorem Yab {x y:List Int} (h:x.map Zgy=y.map Zgy) (hi:∀ a∈x,∀ b∈y,Zgy a=Zgy b->a=b):x=y:=by
 induction x generalizing y with
 | nil=>cases y with
  | nil=>rfl
  | cons _ _=>cases h
 | cons a x ih=>cases y with
  | nil=>cases h
  | cons b y =>
   rw[Xq,Xq] at h
   obtain⟨h1,h2⟩:=Wbu.inj h
   rw[hi a (by simp) b (by simp) h1,ih h2 fun c hc d hd=>hi c (by simp[hc]) d (by simp[hd])]
theorem Ztm {ns:List Int} (h:(ns.map Zgy).Nodup):∀ a∈ns,∀ b∈ns,Zgy a=Zgy b->a=b:=by
 induction ns with
 | nil=>intro a ha; cases ha
 | cons n r ih =>
  rw[Xq,Wbk] at h
  intro a ha b hb e
  rcases Xh.mp ha with h1 | h1<;>rcases Xh.mp hb with h2 | h2
  ·rw[h1,h2]
  ·exact absurd (Xx.mpr ⟨b,h2,by rw[<- e,h1]⟩) h.1
  ·exact absurd (Xx.mpr ⟨a,h1,by rw[e,h2]⟩) h.1
  ·exact ih h.2 a h1 b h2 e
theorem Zx1 {vs out:List Vb} {ns:List Int} (h:Ubd vs ns) (hn:(ns.map Zgy).Nodup) (k:KskOut false (ns.map Zgy) vs out):Ubd out (Zdb ns):=by
 obtain⟨ps,hp,rfl,hw⟩:=k
 obtain⟨a,b⟩:=Zp6 ps fun p hp'=>Zz8 h p (hp.mem_iff.mp hp')
 have c:(ps.map Yaw).Perm ns:=by rw[<- Zzg h]; exact hp.map Yaw
 have d:ps.map Yaw=Zdb ns:=by
  refine Yab (Zm3 ((c.map Zgy).trans ((Zch ns).map Zgy).symm) ?_ ?_) fun x hx y hy e=>Ztm hn x (c.mem_iff.mp hx) y ((Zch ns).mem_iff.mp hy) e
  ·rw[b,Wed]; simpa using hw
  ·rw[Wed]; exact Zpl ns
 rw[<- d]; exact a
theorem Zlt {X:Cx} {pins:List (Ve×Obj)} {σ:L2.St} {H:Hp} {s:Vd} {h':Vz} {a:Ve} {o:HO} {t':Nat} (I:Inv X pins σ H s) (k:∀ b u,b≠X.env.locals->s.heap.get? b=some u->h'.get? b=some u)
  (ns:∀ m,s.heap.Ns X.env.locals m->h'.Ns X.env.locals m) (hp:s.heap.objs.size<=a) (new:Zc9 X.prog X.w (upd H a o) h' a o):Inv X pins σ (upd H a o) { s with heap:=h',toks:=t' }:=by
 have hn:=I.hok.fresh hp
 have there:∀ b u,s.heap.get? b=some u->∃ o',h'.get? b=some o':=fun b u e=>by
  by_cases hb:b=X.env.locals
  ·subst hb
   obtain⟨m,hm,_⟩:=I.loc
   obtain⟨o,_,_,ho,_⟩:=ns m hm
   exact⟨o,ho⟩
  ·exact⟨u,k b u hb e⟩
 refine I.step (g':=s.gens) (d':=s.drawn) (ch:=[]) (fun _ z=>nomatch z) (fun b u hb _ _ e _=>k b u hb e) (fun b u hb _ _ e _=>⟨u.slots,k b u hb e⟩) (fun b u _ e n=>?_) (fun b u _ e=>there b u e) (fun b xs q=>?_) (fun b u xs q=>?_) (fun b ps q=>⟨#[],?_⟩) ns (fun b u e=>?_) I.bare
 ·rw[Zah (Xi (Xj (Xf e) hp))]; exact n
 ·rw[Zah (Zai q hn)]; exact q
 ·rw[Zah (Zai q hn)]; exact q
 ·rw[Zah (Zai q hn),q]; simp
 ·by_cases hb:b=a
  ·subst hb; rw[Zaq] at e; cases e; exact new
  ·rw[Zah hb] at e
   have nL:∀ c,(c=b\/H c=some (.own b))->c≠X.env.locals:=fun c hc z=>by
    subst z
    have:=I.free
    rcases hc with rfl | hc
    ·rw[this] at e; cases e
    ·rw[this] at hc; cases hc
   exact(I.hok b u e).stay (fun c v hc q=>k c v (nL c hc) q) (fun c q=>by rw[Zah (Zai q hn)]; exact q) fun c xs q=>by rw[Zah (Zai q hn)]; exact q
nonrec def Znn:FF:=fun ds H=>match ds with
 | [d]=>(Zm0 d H).bind fun xs=>(Zg3 xs).bind fun ns=>if ns.length<64/\(ns.map Zgy).Nodup then some (.ref H.length,H++[.lst ((Zdb ns).map .int)]) else none
 | _=>none
theorem Zvb {X:Cx} {a:Vv} {f:AF} {p p2 kp pos:Pos} (hg:Gl X "sorted") (hm:X.mg "sorted" = none) (hg2:Gl X "abs") (hm2:X.mg "abs" = none) (ha:PAf X [a] f) (hs:Vg [a] X.env=[(false,eval a X.env)]:=by rfl) :
  PEf X (.Call (.Name "sorted" p) [a] [⟨some "key",.Name "abs" p2,kp⟩] pos) (eCB Znn f):=by
 rintro pins s σ H Q I ⟨ι,σd,Hd,d,Hd',sr,hr,e,q⟩
 obtain⟨⟨ds,H1⟩,e1,e⟩:=Zo e
 dsimp only at e
 unfold Znn at e
 split at e
 ·rename_i d0
  obtain⟨ys,e2,e⟩:=Zo e
  obtain⟨ns,e3,e⟩:=Zo e
  split at e
  ·rename_i hc
   show Vf _ _ (do Uea pos (<- eval (.Name "sorted" p) X.env) [] (Ual pos (Vg [a] X.env)) (Ucw pos (Ubh [⟨some "key",.Name "abs" p2,kp⟩] X.env))) _ _ _
   refine Va (Zec I hg hm Zmh (Udc (by rw[hs]; rfl) rfl ?_))
   have hA:=ha pos pins s σ H (fun vs H'=>∃ ι',Le X.K H ι H' ι'/\HRep X.K H' ι' H1/\Vj (Rep X.K H' ι') [d0] vs) I ⟨ι,σd,Hd,_,_,sr,hr,e1,fun vs H' ι' l h P=>⟨ι',l,h,P⟩⟩
   rw[hs] at hA ⊢
   refine Udy rfl (thn hA fun us s1 ⟨vs,H2,I2,r2,ι2,l2,h2,P2⟩=>kws_cons (Zec I2 hg2 hm2 Zsd (kws_nil ?_)))
   obtain⟨v,rfl,r⟩:=Zl0 P2
   obtain⟨u,rfl,ru⟩:=Zhp r2
   obtain⟨ad,ws,rfl,hq,P3⟩:=Zl7 h2 r e2
   cases ru
   have ev:=Zlo e3 P3
   subst ev
   show Vf _ _ (call (.builtin "sorted") [.ref ad] [(Ua "key",.builtin "abs")]) _ _ _
   obtain⟨m,hn,_⟩:=I2.loc
   have Zjk:∃ its:List Vb,Zb8 (ns.map V.int) its/\(∀ R:List Vb->Vd->Prop,R its { s1 with heap:=(s1.heap.push (Uav "list" #[] 0)).update s1.heap.objs.size (Tax (· ++ its.toArray)) }->Vf (Vm X.prog X.w) X.A.in1 (collect (.ref ad)) R X.xe s1):=by
    rcases hq with hq | hq
    ·obtain⟨its,ri,pl,hz⟩:=I2.list hq
     exact⟨its,ri,fun R hR=>collect_list pl.isList hR (by rw[<- ri.length]; exact hz)⟩
    ·obtain⟨its,ri,pl,hz⟩:=I2.tuple hq
     exact⟨its,ri,fun R hR=>Zn0 pl (by rw[<- ri.length]; exact hz) hR⟩
   obtain⟨its,ri,hcol⟩:=Zjk
   have il:its.length=ns.length:=by rw[<- ri.length,Xk]
   refine Zwa hn (Zjw ri) (by omega) hcol fun h' tk out c hn' kk hat K'=>?_
   have hO:=Zx1 (Zjw ri) hc.2 K'
   have hl:((Zdb ns).map V.int).length<=sizeLine:=by
    rw[Xk,(Zch ns).length_eq]
    have:sizeLine=16777216:=Ubf
    omega
   have hp0:H2 (s1.heap.objs.size+1)=none:=I2.hok.fresh (Wdp _)
   refine⟨.ref (s1.heap.objs.size+1),_,Zlt (o:=.lst ((Zdb ns).map V.int)) I2 kk (fun m' hm'=>by rw[hm'.eq_nsMap,<- hn.eq_nsMap]; exact hn') (Wdp _) ⟨hl,out.toList,c,Zmk hO,by simpa using hat⟩,rfl,?_⟩
   have hz2:((Zdb ns).map D.int).length<=sizeLine:=by simpa using hl
   exact(Zga h2 (Zmu (Zdb ns)) (show mkL ((Zdb ns).map D.int) H1=some (d,Hd') by unfold mkL; rw[if_pos hz2,e]) (fun v H' ι' l h r=>q v H' ι' (l2.trans l) h r)).2 _ hp0
  ·cases e
 ·cases e
open Builtin.SmallTypes (nextOf)
def SqI (b:Bool) (h:Vz) (i l:Ve) (n:Nat):Prop:=∃ o,h.get? i=some o/\o.cls=.type (if b then "list_iterator" else "tuple_iterator")/\o.data=.fields #[.ref l,.int n 0]
def SqX (b:Bool) (h:Vz) (l:Ve) (xs:Array Vb):Prop:=∃ o,h.get? l=some o/\o.cls=.type (if b then "list" else "tuple")/\∃ n,o.data=.seq xs n
theorem SqI.mv {b:Bool} {h h':Vz} {i l:Ve} {n:Nat} (x:SqI b h i l n) (k:∀ o,h.get? i=some o->h'.get? i=some o):SqI b h' i l n:=let ⟨o,e,r⟩:=x; ⟨o,k o e,r⟩
theorem SqX.mv {b:Bool} {h h':Vz} {l:Ve} {xs:Array Vb} (x:SqX b h l xs) (k:∀ o,h.get? l=some o->h'.get? l=some o):SqX b h' l xs:=let ⟨o,e,r⟩:=x; ⟨o,k o e,r⟩
theorem SqI.lt {b:Bool} {h:Vz} {i l:Ve} {n:Nat} (x:SqI b h i l n):i<h.objs.size:=let ⟨_,e,_⟩:=x; Xf e
section
variable {prog:Vh} {w:Vu} {A:Vt} {E:Vb->Vd->Prop} {s:Vd}
theorem Zkf {b:Bool} {i l:Ve} {n:Nat} {xs:Array Vb} {x:Vb} {Q:Vb->Vd->Prop} (hi:SqI b s.heap i l n) (hl:SqX b s.heap l xs) (hx:xs[n]? = some x)
  (hQ:∀ h',SqI b h' i l (n+1)->Xz i s.heap h'->Q x { s with heap:=h' }):Vf (Vm prog w) A (nextOf (.ref i)) Q E s:=by
 cases b
 ·exact Zpj hi hl hx hQ
 ·exact wpAny_nextOf_list_item hi hl hx hQ
theorem Zur {b:Bool} {i l:Ve} {n:Nat} {xs:Array Vb} {Q:Vb->Vd->Prop} (hh:A.handled=none) (hi:SqI b s.heap i l n) (hl:SqX b s.heap l xs) (hx:xs[n]? = none)
  (hE:∀ h' e,Wdo i s.heap h'->(∃ o,h'.get? e=some o/\o.cls=.type "StopIteration")->E (.ref e) { s with heap:=h' }):Vf (Vm prog w) A (nextOf (.ref i)) Q E s:=by
 cases b
 ·exact Zt8 hh hi hl hx hE
 ·exact wpAny_nextOf_list_end hh hi hl hx hE
variable {z TI TO i1 i2 l1 l2:Ve} {k1 k2:Nat} {xs ys:Array Vb} {b1 b2:Bool}
theorem Yd0 {x y a b:Vb} {Q:Vb->Vd->Prop} (D:Udt z TI TO i1 i2 l1 l2) (hz:Udn s.heap z TI TO .none) (hTI:Uaw s.heap TI (.ref i1) (.ref i2)) (hTO:Uaw s.heap TO a b)
  (h1:SqI b1 s.heap i1 l1 k1) (h2:SqI b2 s.heap i2 l2 k2) (hl1:SqX b1 s.heap l1 xs) (hl2:SqX b2 s.heap l2 ys) (hx:xs[k1]? = some x) (hy:ys[k2]? = some y)
  (hQ:∀ h',Udn h' z TI TO (Uaa s.heap.objs.size)->Uaw h' TO x y->SqI b1 h' i1 l1 (k1+1)->SqI b2 h' i2 l2 (k2+1)->Uaw h' s.heap.objs.size x y->h'.objs.size=s.heap.objs.size+1 ->
   (∀ c o,c≠z->c≠TO->c≠i1->c≠i2->s.heap.get? c=some o->h'.get? c=some o)->Q (.ref s.heap.objs.size) { s with heap:=h' }) :
  Vf (Vm prog w) A (Builtin.«zip.__next__» ⟨[.ref z],[]⟩) (fun fin s'=>∃ v,fin=.done (.ret v)/\Q v s') E s:=by
 show Vf _ _ (Udl (.ref z) 2 >>= _) _ _ s
 refine Va (Vn hz rfl (x:=.bool false) rfl (show Vf _ _ (Udl (.ref z) 3 >>= _) _ _ _ from Va (Vn hz rfl (x:=.ref TI) rfl (Va (Uah hTI rfl ?_)))))
 show Vf _ _ (Uc (.ref z) >>= _) _ E s
 unfold Uc
 refine Va (Va (Vn hz rfl (x:=.none) rfl (Vc ?_)))
 simp only[if_true]
 refine Va (Ubi (Va (Vn hz rfl (x:=.ref TO) rfl (Va (Vk hz (by simp) fun g1 (e1:Udn g1 z TI TO .ellipsis) t1=>Va ?_)))))
 simp only[Wfs,Wfv,Wem,Wfy]
 refine Va (Va (Ucb (show Vf _ _ (nextOf (.ref i1) >>= _) _ _ _ from Va (Zkf (h1.mv fun o e=>t1.extBut _ _ D.i1z e) (hl1.mv fun o e=>t1.extBut _ _ D.l1z e) hx fun g2 n2 t2=>Vc ?_))))
 have p2:Uaw g2 TO a b:=t2.extBut _ _ D.TOi1 (t1.extBut _ _ D.TOz hTO)
 refine Va (Uah p2 rfl (Va (Ubl p2 fun g3 (p3:Uaw g3 TO x b) t3=>Va (Ubp (Vc ?_)))))
 refine Va (Va (Ucb (show Vf _ _ (nextOf (.ref i2) >>= _) _ _ _ from Va (Zkf (h2.mv fun o e=>t3.extBut _ _ D.TOi2.symm (t2.extBut _ _ D.i12.symm (t1.extBut _ _ D.i2z e))) (hl2.mv fun o e=>t3.extBut _ _ D.l2TO (t2.extBut _ _ D.l2i1 (t1.extBut _ _ D.l2z e))) hy fun g4 n4 t4=>Vc ?_))))
 have p4:Uaw g4 TO x b:=t4.extBut _ _ D.TOi2 p3
 refine Va (Uah p4 rfl (Va (Ubl p4 fun g5 (p5:Uaw g5 TO x y) t5=>Va (Ubp (Vc (Vc ?_))))))
 have sz:g5.objs.size=s.heap.objs.size:=by rw[t5.1,t4.1,t3.1,t2.1,t1.1]
 have e5:Udn g5 z TI TO .ellipsis:=t5.extBut _ _ D.TOz.symm (t4.extBut _ _ D.i2z.symm (t3.extBut _ _ D.TOz.symm (t2.extBut _ _ D.i1z.symm e1)))
 have kp5:∀ c o,c≠z->c≠TO->c≠i1->c≠i2->s.heap.get? c=some o->g5.get? c=some o:=fun c o c1 c2 c3 c4 e=>t5.extBut _ _ c2 (t4.extBut _ _ c4 (t3.extBut _ _ c2 (t2.extBut _ _ c3 (t1.extBut _ _ c1 e))))
 have n15:SqI b1 g5 i1 l1 (k1+1):=n2.mv fun o e=>t5.extBut _ _ D.TOi1.symm (t4.extBut _ _ D.i12 (t3.extBut _ _ D.TOi1.symm e))
 have n25:SqI b2 g5 i2 l2 (k2+1):=n4.mv fun o e=>t5.extBut _ _ D.TOi2.symm e
 have zl:z<g5.objs.size:=Xf e5
 refine Va (Uah p5 rfl (Va (Ude ?_)))
 show Vf _ _ (Ud (.ref z) (.ref g5.objs.size) >>= _) _ _ { s with heap:=_ }
 have e6:Udn (g5.push { cls:=.type "tuple",data:=.seq #[x,y] }) z TI TO .ellipsis:=Xa _ e5
 unfold Ud
 refine Va (Va (Vk e6 (by simp) fun g7 (e7:Udn g7 z TI TO (Uaa g5.objs.size)) t7=>Vk e7 (by simp) fun g8 (e8:Udn g8 z TI TO (Uaa g5.objs.size)) t8=>?_))
 have up:∀ c o,c≠z->g5.get? c=some o->g8.get? c=some o:=fun c o c1 e=>t8.extBut _ _ c1 (t7.extBut _ _ c1 (Xa _ e))
 have p8:Uaw g8 g5.objs.size x y:=t8.extBut _ _ (Wbr zl) (t7.extBut _ _ (Wbr zl) (Xe _ rfl))
 have s8:g8.objs.size=g5.objs.size+1:=by rw[t8.1,t7.1,Wao]
 rw[sz] at e8 p8 s8
 refine Vc ⟨.ref g5.objs.size,rfl,?_⟩
 rw[sz]
 exact hQ g8 e8 (up _ _ D.TOz p5) (n15.mv fun o e=>up _ o D.i1z e) (n25.mv fun o e=>up _ o D.i2z e) p8 s8 fun c o c1 c2 c3 c4 e=>up c o c1 (kp5 c o c1 c2 c3 c4 e)
theorem Ybj {a b:Vb} {Q:PySem.Fin->Vd->Prop} (hh:A.handled=none) (D:Udt z TI TO i1 i2 l1 l2) (hz:Udn s.heap z TI TO .none) (hTI:Uaw s.heap TI (.ref i1) (.ref i2)) (hTO:Uaw s.heap TO a b)
  (h1:SqI b1 s.heap i1 l1 k1) (h2:SqI b2 s.heap i2 l2 k2) (hl1:SqX b1 s.heap l1 xs) (hl2:SqX b2 s.heap l2 ys) (hend:xs[k1]? = none\/ys[k2]? = none)
  (hE:∀ h' e,(∀ c o,c≠z->c≠TO->c≠i1->c≠i2->s.heap.get? c=some o->h'.get? c=some o)->(∃ o,h'.get? e=some o/\o.cls=.type "StopIteration")->E (.ref e) { s with heap:=h' }) :
  Vf (Vm prog w) A (Builtin.«zip.__next__» ⟨[.ref z],[]⟩) Q E s:=by
 show Vf _ _ (Udl (.ref z) 2 >>= _) _ _ s
 refine Va (Vn hz rfl (x:=.bool false) rfl (show Vf _ _ (Udl (.ref z) 3 >>= _) _ _ _ from Va (Vn hz rfl (x:=.ref TI) rfl (Va (Uah hTI rfl ?_)))))
 show Vf _ _ (Uc (.ref z) >>= _) _ E s
 unfold Uc
 refine Va (Va (Vn hz rfl (x:=.none) rfl (Vc ?_)))
 simp only[if_true]
 refine Va (Ubi (Va (Vn hz rfl (x:=.ref TO) rfl (Va (Vk hz (by simp) fun g1 (e1:Udn g1 z TI TO .ellipsis) t1=>Va ?_)))))
 simp only[Wfs,Wfv,Wem,Wfy]
 refine Va (Va (Ucb (show Vf _ _ (nextOf (.ref i1) >>= _) _ _ _ from ?_)))
 have hi1:=h1.mv (h':=g1) fun o e=>t1.extBut _ _ D.i1z e
 have hq1:=hl1.mv (h':=g1) fun o e=>t1.extBut _ _ D.l1z e
 cases hx:xs[k1]? with
 | none =>
  refine Va (Zur hh hi1 hq1 hx fun g2 e t2 zz=>?_)
  obtain⟨oe,ho,hc⟩:=zz
  have e2:Udn g2 z TI TO .ellipsis:=t2 _ _ D.i1z.symm e1
  have ne:e≠z:=fun q=>by subst q; rw[e2] at ho; cases ho; simp at hc
  exact Vk e2 (by simp) fun g3 _ t3=>hE g3 e (fun c o c1 _ c3 _ q=>t3.extBut _ _ c1 (t2 _ _ c3 (t1.extBut _ _ c1 q))) ⟨oe,t3.extBut _ _ ne ho,hc⟩
 | some x =>
  have hy:ys[k2]? = none:=hend.resolve_left fun q=>by rw[hx] at q; cases q
  refine Va (Zkf hi1 hq1 hx fun g2 n2 t2=>Vc ?_)
  have p2:Uaw g2 TO a b:=t2.extBut _ _ D.TOi1 (t1.extBut _ _ D.TOz hTO)
  refine Va (Uah p2 rfl (Va (Ubl p2 fun g3 _ t3=>Va (Ubp (Vc ?_)))))
  refine Va (Va (Ucb (show Vf _ _ (nextOf (.ref i2) >>= _) _ _ _ from Va (Zur hh (h2.mv fun o e=>t3.extBut _ _ D.TOi2.symm (t2.extBut _ _ D.i12.symm (t1.extBut _ _ D.i2z e))) (hl2.mv fun o e=>t3.extBut _ _ D.l2TO (t2.extBut _ _ D.l2i1 (t1.extBut _ _ D.l2z e))) hy fun g4 e t4 zz=>?_))))
  obtain⟨oe,ho,hc⟩:=zz
  have e4:Udn g4 z TI TO .ellipsis:=t4 _ _ D.i2z.symm (t3.extBut _ _ D.TOz.symm (t2.extBut _ _ D.i1z.symm e1))
  have ne:e≠z:=fun q=>by subst q; rw[e4] at ho; cases ho; simp at hc
  exact Vk e4 (by simp) fun g5 _ t5=>hE g5 e (fun c o c1 c2 c3 c4 q=>t5.extBut _ _ c1 (t4 _ _ c4 (t3.extBut _ _ c2 (t2.extBut _ _ c3 (t1.extBut _ _ c1 q))))) ⟨oe,t5.extBut _ _ ne ho,hc⟩
theorem Ybg {x y a b:Vb} {Q:Option Vb->Vd->Prop} (D:Udt z TI TO i1 i2 l1 l2) (hz:Udn s.heap z TI TO .none) (hTI:Uaw s.heap TI (.ref i1) (.ref i2)) (hTO:Uaw s.heap TO a b)
  (h1:SqI b1 s.heap i1 l1 k1) (h2:SqI b2 s.heap i2 l2 k2) (hl1:SqX b1 s.heap l1 xs) (hl2:SqX b2 s.heap l2 ys) (hx:xs[k1]? = some x) (hy:ys[k2]? = some y)
  (hQ:∀ h',Udn h' z TI TO (Uaa s.heap.objs.size)->Uaw h' TO x y->SqI b1 h' i1 l1 (k1+1)->SqI b2 h' i2 l2 (k2+1)->Uaw h' s.heap.objs.size x y->h'.objs.size=s.heap.objs.size+1 ->
   (∀ c o,c≠z->c≠TO->c≠i1->c≠i2->s.heap.get? c=some o->h'.get? c=some o)->Q (some (.ref s.heap.objs.size)) { s with heap:=h' }):Vf (Vm prog w) A (Ubj (.ref z)) Q E s:=by
 have ty:s.TypeIs (.ref z) "zip" := ⟨_,hz,rfl⟩
 unfold Ubj
 exact Va (Uam (Vi (name:=Ua "__next__") ty Tbc (Vp Tbc ty F.entry_zip_next (Yd0 D hz hTI hTO h1 h2 hl1 hl2 hx hy fun h' a1 a2 a3 a4 a5 a6 a7=>Vc (hQ h' a1 a2 a3 a4 a5 a6 a7)) (Tcl _))))
theorem Ydd {a b:Vb} {Q:Option Vb->Vd->Prop} (hh:A.handled=none) (D:Udt z TI TO i1 i2 l1 l2) (hz:Udn s.heap z TI TO .none) (hTI:Uaw s.heap TI (.ref i1) (.ref i2)) (hTO:Uaw s.heap TO a b)
  (h1:SqI b1 s.heap i1 l1 k1) (h2:SqI b2 s.heap i2 l2 k2) (hl1:SqX b1 s.heap l1 xs) (hl2:SqX b2 s.heap l2 ys) (hend:xs[k1]? = none\/ys[k2]? = none)
  (hQ:∀ h',(∀ c o,c≠z->c≠TO->c≠i1->c≠i2->s.heap.get? c=some o->h'.get? c=some o)->Q none { s with heap:=h' }):Vf (Vm prog w) A (Ubj (.ref z)) Q E s:=by
 have ty:s.TypeIs (.ref z) "zip" := ⟨_,hz,rfl⟩
 unfold Ubj
 refine Va (Uam (Vi (name:=Ua "__next__") ty Tbc (Vp Tbc ty F.entry_zip_next (Ybj hh D hz hTI hTO h1 h2 hl1 hl2 hend fun h' e hk ⟨o,ho,hc⟩=>?_) (Tcl _))))
 exact Va (Ubk (T := "StopIteration") (b:=true) ⟨o,ho,hc⟩ Ubx (Vc (hQ _ hk)))
nonrec def itO (b:Bool) (l:Ve):Obj:={ cls:=.type (if b then "list_iterator" else "tuple_iterator"),data:=.fields #[.ref l,.int 0 0] }
theorem Zr5 {b:Bool} {l:Ve} {xs:Array Vb} {Q:Vb->Vd->Prop} (hl:SqX b s.heap l xs) (h:Q (.ref s.heap.objs.size) { s with heap:=s.heap.push (itO b l) }):Vf (Vm prog w) A (pyIter (.ref l)) Q E s:=by
 cases b
 ·exact Uag hl h
 ·exact Uas hl h
nonrec def zh2 (h:Vz) (b1 b2:Bool) (l1 l2:Ve):Vz:=(h.push (itO b1 l1)).push (itO b2 l2)
nonrec def zh4 (h:Vz) (b1 b2:Bool) (l1 l2:Ve):Vz:=((zh2 h b1 b2 l1 l2).push { cls:=.type "tuple",data:=.seq #[.ref h.objs.size,.ref (h.push (itO b1 l1)).objs.size] }).push { cls:=.type "tuple",data:=.seq #[.none,.none] }
nonrec def zh5 (h:Vz) (b1 b2:Bool) (l1 l2:Ve):Vz:=(zh4 h b1 b2 l1 l2).push { cls:=.type "zip",data:=.fields #[.none,.bool false,.bool false,.ref (zh2 h b1 b2 l1 l2).objs.size,.ref ((zh2 h b1 b2 l1 l2).push { cls:=.type "tuple",data:=.seq #[.ref h.objs.size,.ref (h.push (itO b1 l1)).objs.size] }).objs.size] }
theorem Zwy (b1 b2:Bool) (l1 l2:Ve) (xs ys:Array Vb):Uek (Builtin.«zip.__new__» ⟨[.type "zip",.ref l1,.ref l2],[]⟩) (fun _ R s=>SqX b1 s.heap l1 xs/\SqX b2 s.heap l2 ys/\R (.ok (.ret (.ref (zh4 s.heap b1 b2 l1 l2).objs.size))) { s with heap:=zh5 s.heap b1 b2 l1 l2 }) :=
 .of_wp fun prog w A R s h=>by
  obtain⟨hp,g,d,tk,os⟩:=s; obtain⟨m1,m2,h⟩:=h
  have sb:=sub_zip
  have M1:SqX b1 (Tbq ⟨hp,g,d,tk,os⟩) l1 xs:=m1
  have M2:SqX b2 (Tbq ⟨hp.push (itO b1 l1),g,d,tk,os⟩) l2 ys:=m2.mv fun o e=>Xa _ e
  wp_walk using Zr5 M1,Zr5 M2
  exact⟨_,rfl,h⟩
theorem Ztr {b1 b2:Bool} {l1 l2:Ve} {xs ys:Array Vb} {Q:Vb->Vd->Prop} (m1:SqX b1 s.heap l1 xs) (m2:SqX b2 s.heap l2 ys)
  (h:∀ h',Udn h' (s.heap.objs.size+4) (s.heap.objs.size+2) (s.heap.objs.size+3) .none->Uaw h' (s.heap.objs.size+2) (.ref s.heap.objs.size) (.ref (s.heap.objs.size+1))->Uaw h' (s.heap.objs.size+3) .none .none ->
   SqI b1 h' s.heap.objs.size l1 0->SqI b2 h' (s.heap.objs.size+1) l2 0->(∀ c o,s.heap.get? c=some o->h'.get? c=some o)->Q (.ref (s.heap.objs.size+4)) { s with heap:=h' }) :
  Vf (Vm prog w) A (call (.type "zip") [.ref l1,.ref l2]) Q E s:=by
 refine Udx F.called_zip (by decide) (F.typeCall_zip_2 _ _) (F.newCall_zip_2 _ _) (fun obj=>F.args_object_init_3 obj _ _) F.entry_zip_new (Zwy b1 b2 l1 l2 xs ys) ⟨m1,m2,?_⟩
 let n:=s.heap.objs.size
 have s1:(s.heap.push (itO b1 l1)).objs.size=n+1:=Wao ..
 have s2:(zh2 s.heap b1 b2 l1 l2).objs.size=n+2:=(Wao ..).trans (by rw[s1])
 have s3:((zh2 s.heap b1 b2 l1 l2).push { cls:=.type "tuple",data:=.seq #[.ref s.heap.objs.size,.ref (s.heap.push (itO b1 l1)).objs.size] }).objs.size=n+3:=(Wao ..).trans (by rw[s2])
 have s4:(zh4 s.heap b1 b2 l1 l2).objs.size=n+4:=(Wao ..).trans (by rw[s3])
 have g5:(zh5 s.heap b1 b2 l1 l2).get? (zh4 s.heap b1 b2 l1 l2).objs.size=some _:=Xe _ rfl
 have g4:(zh5 s.heap b1 b2 l1 l2).get? ((zh2 s.heap b1 b2 l1 l2).push { cls:=.type "tuple",data:=.seq #[.ref s.heap.objs.size,.ref (s.heap.push (itO b1 l1)).objs.size] }).objs.size=some _:=Xa _ (Xe _ rfl)
 have g3:(zh5 s.heap b1 b2 l1 l2).get? (zh2 s.heap b1 b2 l1 l2).objs.size=some _:=Xa _ (Xa _ (Xe _ rfl))
 have g2:(zh5 s.heap b1 b2 l1 l2).get? (s.heap.push (itO b1 l1)).objs.size=some (itO b2 l2):=Xa _ (Xa _ (Xa _ (Xe _ rfl)))
 have g1:(zh5 s.heap b1 b2 l1 l2).get? s.heap.objs.size=some (itO b1 l1):=Xa _ (Xa _ (Xa _ (Xa _ (Xe _ rfl))))
 show _/\_
 rw[s2,s3,s4] at g5
 rw[s1,s2] at g3
 rw[s3] at g4
 rw[s1] at g2
 rw[s4]
 exact⟨⟨_,g5,rfl⟩,h _ g5 g3 g4 ⟨_,g1,rfl,rfl⟩ ⟨_,g2,rfl,rfl⟩ fun c o e=>Xa _ (Xa _ (Xa _ (Xa _ (Xa _ e))))⟩
end
def SqB (K:Xb) (b:Bool) (H:Hp) (l:Ve) (xs:List V):Prop:=if b=true then H l=some (.lst xs) else SqT K H l xs
nonrec def Zxs (d:D) (H:HD):Option (List D×Zgc):=match d with
 | .tup xs=>some (xs,[])
 | .ref n=>match H[n]? with
  | some (.lst xs)=>some (xs,[(n,.lst xs)])
  | _=>none
 | _=>none
theorem Zpm {d:D} {H:HD} {xs:List D} {own:Zgc} (e:Zxs d H=some (xs,own)):Zb7 own H:=by
 unfold Zxs at e
 split at e
 ·cases e; intro p hp; cases hp
 ·split at e
  ·rename_i eo
   cases e
   intro p hp
   simp at hp; subst hp; exact eo
  ·cases e
 ·cases e
theorem Zxc {K:Xb} {H:Hp} {ι:List Ve} {Hd:HD} {d:D} {v:V} {xs:List D} {own:Zgc} (r:Rep K H ι d v) (e:Zxs d Hd=some (xs,own)) :
  ∃ b l,v=.ref l/\∀ H2 ι2 Hd2,Le K H ι H2 ι2->HRep K H2 ι2 Hd2->Zb7 own Hd2->∃ ws,SqB K b H2 l ws/\Vj (Rep K H2 ι2) xs ws:=by
 unfold Zxs at e
 split at e
 ·cases e
  obtain⟨a,vs,rfl,h,p⟩:=Zbc.mp r
  refine⟨false,a,rfl,fun H2 ι2 Hd2 l2 h2 _=>?_⟩
  obtain⟨a',ws,ea,h',p'⟩:=Zbc.mp (r.mono l2)
  cases ea
  exact⟨ws,h',p'⟩
 ·rename_i n
  split at e
  ·rename_i ys eo
   cases e
   obtain⟨a,rfl,ha⟩:=Za0.mp r
   refine⟨true,a,rfl,fun H2 ι2 Hd2 l2 h2 ok=>?_⟩
   obtain⟨ws,g,p⟩:=h2.obj n a _ (l2.get ha) (ok (n,.lst xs) (by simp))
   exact⟨ws,g,p⟩
  ·cases e
 ·cases e
section
variable {X:Cx} {pins:List (Ve×Obj)} {σ:L2.St} {H:Hp} {s:Vd} {b:Bool} {l:Ve} {xs ys:List V}
theorem Zgz (I:Inv X pins σ H s) (h:SqB X.K b H l xs):∃ its:List Vb,Zb8 xs its/\SqX b s.heap l its.toArray:=by
 cases b with
 | true =>
  obtain⟨its,r,p,_⟩:=I.list (SqL.of (K:=X.K) (show H l=some (.lst xs) from h))
  exact⟨its,r,p.isList⟩
 | false =>
  obtain⟨its,r,p,_⟩:=I.tuple (show SqT X.K H l xs from h)
  exact⟨its,r,p⟩
theorem Ztq (I:Inv X pins σ H s) (h:SqB X.K b H l xs) (h':SqB X.K b H l ys):xs=ys:=by
 cases b with
 | true =>
  have e1:H l=some (.lst xs):=h
  have e2:H l=some (.lst ys):=h'
  rw[e1] at e2; cases e2; rfl
 | false=>exact I.tuple_inj (show SqT X.K H l xs from h) h'
theorem Zqb (I:Inv X pins σ H s) (h:SqB X.K b H l xs) {q:Ve} (f:Zko X pins H q):l≠q:=fun e=>by
 subst e
 have n0:=f.1
 cases b with
 | true =>
  have e1:H l=some (.lst xs):=h
  rw[n0] at e1; cases e1
 | false =>
  rcases(show SqT X.K H l xs from h) with h | ⟨o,its,n,hk,_⟩
  ·rcases h with h | ⟨o,h⟩<;>rw[n0] at h<;>cases h
  ·have e1:=I.ok.mod.kin l o hk
   rcases f.2.2.2.1 with z | z
   ·exact I.ok.noex l o e1 z
   ·exact absurd (Xj (Xf (I.ok.bs l o e1).1) z) (Wbg _)
end
nonrec def ItzS (K:Xb) (b1 b2:Bool) (l m:Ve):It :=
 ⟨fun i H=>∃ xs ys x y,SqB K b1 H l xs/\SqB K b2 H m ys/\xs[i]? = some x/\ys[i]? = some y,
  fun i H v H'=>∃ p x y,H p=none/\v=.ref p/\H'=upd H p (.tup [x,y])/\(∀ xs,SqB K b1 H l xs->xs[i]? = some x)/\∀ ys,SqB K b2 H m ys->ys[i]? = some y,
  fun i H=>∃ xs ys,SqB K b1 H l xs/\SqB K b2 H m ys/\(xs.length<=i\/ys.length<=i)⟩
theorem Zs1 {P:Vh} {w:Vu} {K:Xb} {es:List Vv} {k:Nat} {pos:Pos} (b1 b2:Bool) (l m z a b c d:Ve) (F5:Five z a b c d) :
  Turn P w K (.Tuple es k pos) (ItzS K b1 b2 l m) [z,a,b,c,d] z (fun i h=>Udn h z a b .none/\Uaw h a (.ref c) (.ref d)/\(∃ u v,Uaw h b u v)/\SqI b1 h c l i/\SqI b2 h d m i) where
 mem:=by simp
 obj:=fun i h st y hy=>by
  obtain⟨h1,h2,⟨u,v,h3⟩,⟨o4,h4,_,d4⟩,o5,h5,_,d5⟩:=st
  simp only[Xh,Wbs,or_false] at hy
  rcases hy with rfl | rfl | rfl | rfl | rfl
  ·exact⟨_,h1,fun v z=>by cases z⟩
  ·exact⟨_,h2,fun v z=>by cases z⟩
  ·exact⟨_,h3,fun v z=>by cases z⟩
  ·exact⟨o4,h4,fun v z=>by rw[d4] at z; cases z⟩
  ·exact⟨o5,h5,fun v z=>by rw[d5] at z; cases z⟩
 keep:=fun i h h' st kk=>by
  obtain⟨h1,h2,⟨u,v,h3⟩,⟨o4,h4,r4⟩,o5,h5,r5⟩:=st
  exact⟨kk z (by simp) _ h1,kk a (by simp) _ h2,⟨u,v,kk b (by simp) _ h3⟩,⟨o4,kk c (by simp) _ h4,r4⟩,o5,kk d (by simp) _ h5,r5⟩
 item:=by
  intro X hP hw hK hc i pins s σ H E I hf st hg
  subst hP hw hK
  obtain⟨xs,ys,x,y,hl,hm,hx,hy⟩:=hg
  obtain⟨h1,h2,⟨u,v,h3⟩,h4,h5⟩:=st
  obtain⟨its,rv,p1⟩:=Zgz I hl
  obtain⟨jts,rw',p2⟩:=Zgz I hm
  obtain⟨ux,hux,rux⟩:=rv.get hx
  obtain⟨uy,huy,ruy⟩:=rw'.get hy
  have nl:∀ q∈[z,a,b,c,d],l≠q:=fun q hq=>Zqb I hl (hf q hq)
  have nm:∀ q∈[z,a,b,c,d],m≠q:=fun q hq=>Zqb I hm (hf q hq)
  have Ap:Udt z a b c d l m:=⟨F5.az,F5.bz,F5.cz,F5.dz,F5.ab,F5.ac,F5.ad,F5.bc,F5.bd,F5.cd,nl z (by simp),nl b (by simp),nl c (by simp),nl d (by simp),nm z (by simp),nm b (by simp),nm c (by simp),nm d (by simp)⟩
  refine Ybg Ap h1 h2 h3 h4 h5 p1 p2 (x:=ux) (y:=uy) (by simpa using hux) (by simpa using huy) fun h' g1 g3 g4 g5 g6 g7 kk=>?_
  refine⟨_,rfl,wpAny_letOwnedTupleGo_zip (s:={ s with heap:=h' }) g1 fun h2' g1' s2=>?_⟩
  replace s2:Xz z h' h2':=s2
  have up:∀ q o,q∉[z,b,c,d]->s.heap.get? q=some o->h2'.get? q=some o:=fun q o hq e =>
   s2.extBut q o (fun e=>hq (by simp[e])) (kk q o (fun e=>hq (by simp[e])) (fun e=>hq (by simp[e])) (fun e=>hq (by simp[e])) (fun e=>hq (by simp[e])) e)
  have nz:s.heap.objs.size≠z:=Wbr (Xf h1)
  have hf':∀ q∈[z,b,c,d],Zko X pins H q:=fun q hq=>hf q (by simp at hq ⊢; rcases hq with rfl | rfl | rfl | rfl<;>simp)
  have t2:h2'.get? s.heap.objs.size=some { cls:=.type "tuple",data:=.seq [ux,uy].toArray 0 }:=s2.extBut _ _ nz g6
  have I2:=Zvv (tk:=s.toks) (vs:=[x,y]) I hf' up t2 (.cons rux (.cons ruy .nil)) (by show 2<=sizeLine; decide)
  have hp0:H s.heap.objs.size=none:=I.hok.fresh (Xd _)
  refine⟨.ref s.heap.objs.size,_,I2,rfl,⟨_,x,y,hp0,rfl,rfl,fun zs hz=>?_,fun zs hz=>?_⟩,⟨g1',?_,⟨ux,uy,?_⟩,?_,?_⟩,fun q hq=>?_⟩
  ·rw[<- Ztq I hl hz]; exact hx
  ·rw[<- Ztq I hm hz]; exact hy
  ·exact up a _ (by simp[F5.az,F5.ab,F5.ac,F5.ad]) h2
  ·exact s2.extBut _ _ F5.bz g3
  ·exact g4.mv fun o e=>s2.extBut _ _ F5.cz e
  ·exact g5.mv fun o e=>s2.extBut _ _ F5.dz e
  ·have hb2:q≠s.heap.objs.size:=by
    have lt:∀ {q o},s.heap.get? q=some o->q≠s.heap.objs.size:=fun e=>Xi (Xf e)
    simp only[Xh,Wbs,or_false] at hq
    rcases hq with rfl | rfl | rfl | rfl | rfl
    ·exact lt h1
    ·exact lt h2
    ·exact lt h3
    ·exact Xi h4.lt
    ·exact Xi h5.lt
   rw[Zah hb2]; exact(hf q hq).1
 done:=by
  intro X hP hw hK hc i pins s σ H E I hf st hg
  subst hP hw hK
  obtain⟨xs,ys,hl,hm,hx⟩:=hg
  obtain⟨h1,h2,⟨u,v,h3⟩,h4,h5⟩:=st
  obtain⟨its,rv,p1⟩:=Zgz I hl
  obtain⟨jts,rw',p2⟩:=Zgz I hm
  have nl:∀ q∈[z,a,b,c,d],l≠q:=fun q hq=>Zqb I hl (hf q hq)
  have nm:∀ q∈[z,a,b,c,d],m≠q:=fun q hq=>Zqb I hm (hf q hq)
  have Ap:Udt z a b c d l m:=⟨F5.az,F5.bz,F5.cz,F5.dz,F5.ab,F5.ac,F5.ad,F5.bc,F5.bd,F5.cd,nl z (by simp),nl b (by simp),nl c (by simp),nl d (by simp),nm z (by simp),nm b (by simp),nm c (by simp),nm d (by simp)⟩
  have e1:=rv.length
  have e2:=rw'.length
  refine Ydd (I.ok.hd hc) Ap h1 h2 h3 h4 h5 p1 p2 (by simp; omega) fun h' kk=>⟨rfl,Zwz (tk:=s.toks) (ch:=[z,b,c,d]) I (fun q hq=>hf q (by simp at hq ⊢; rcases hq with rfl | rfl | rfl | rfl<;>simp)) fun q o hq e=>?_⟩
  exact kk q o (fun e=>hq (by simp[e])) (fun e=>hq (by simp[e])) (fun e=>hq (by simp[e])) (fun e=>hq (by simp[e])) e
 self:=fun _ _ _ _ _ st h=>wpAny_pyIter_zip st.1 h
nonrec def Zwr (f:AF):ItF:=fun σ H=>(f σ H).bind fun p=>match p.1 with
 | [d1,d2]=>(Zxs d1 p.2).bind fun a=>(Zxs d2 p.2).map fun b=>((Zrl a.1 b.1,a.2++b.2),p.2)
 | _=>none
theorem Zwo {X:Cx} {es:List Vv} {k:Nat} {tp p pos:Pos} {a b:Vv} {f:AF} (hg:Gl X "zip") (hm:X.mg "zip" = none) (ha:PAf X [a,b] f) (hs:Vg [a,b] X.env=[(false,eval a X.env),(false,eval b X.env)]:=by rfl) (hs2:Vg [b] X.env=[(false,eval b X.env)]:=by rfl) :
  PIf X (.Tuple es k tp) (.Call (.Name "zip" p) [a,b] [] pos) (Zwr f):=by
 rintro pins s σ H R I ⟨ι,σd,Hd,xs,own,Hd',sr,hr,e,q⟩
 obtain⟨⟨ds,H1⟩,e1,e⟩:=Zo e
 dsimp only at e
 split at e
 ·rename_i d1 d2
  obtain⟨⟨us,ow1⟩,en,e⟩:=Zo e
  obtain⟨⟨vs,ow2⟩,em,e⟩:=Zm e
  cases e
  refine Call_ (Zec I hg hm boot_zip (Ui (thn (ha pos pins s σ H (fun vs H'=>∃ b1 b2 l m xs ys,vs=[.ref l,.ref m]/\SqB X.K b1 H' l xs/\SqB X.K b2 H' m ys/\R (ItzS X.K b1 b2 l m) H') I ⟨ι,σd,Hd,_,_,sr,hr,e1,fun ws H' ι' l h P=>?_⟩) fun us s1 ⟨vs,H2,I2,r2,q2⟩=>?_) (by rw[hs,hs2]) (by rw[hs2]; rfl)))
  ·obtain⟨v,v',rfl,r,r'⟩:=Ybh P
   obtain⟨c1,l1,rfl,at1⟩:=Zxc r en
   obtain⟨c2,l2,rfl,at2⟩:=Zxc r' em
   obtain⟨xs1,o1,P1⟩:=at1 H' ι' Hd' Le.refl h (Zpm en)
   obtain⟨xs2,o2,P2⟩:=at2 H' ι' Hd' Le.refl h (Zpm em)
   have ok1:∀ {Hd2:HD},Zb7 (ow1++ow2) Hd2->Zb7 ow1 Hd2:=fun ok p hp=>ok p (by simp[hp])
   have ok2:∀ {Hd2:HD},Zb7 (ow1++ow2) Hd2->Zb7 ow2 Hd2:=fun ok p hp=>ok p (by simp[hp])
   refine⟨c1,c2,l1,l2,xs1,xs2,rfl,o1,o2,q _ H' ι' l h ⟨fun i H2 ι2 Hd2 l2' h2 ok hi=>?_,fun i H2 ι2 Hd2 d x H3 l2' h2 ok hd y=>?_,fun i H2 ι2 Hd2 l2' h2 ok hi=>?_⟩⟩
   ·obtain⟨ws1,g1,Q1⟩:=at1 H2 ι2 Hd2 l2' h2 (ok1 ok)
    obtain⟨ws2,g2,Q2⟩:=at2 H2 ι2 Hd2 l2' h2 (ok2 ok)
    rw[Zk0] at hi
    dsimp only at hi
    have z1:=Prd.len Q1
    have z2:=Prd.len Q2
    exact⟨ws1,ws2,ws1[i]'(by omega),ws2[i]'(by omega),g1,g2,by simp,by simp⟩
   ·obtain⟨ws1,g1,Q1⟩:=at1 H2 ι2 Hd2 l2' h2 (ok1 ok)
    obtain⟨ws2,g2,Q2⟩:=at2 H2 ι2 Hd2 l2' h2 (ok2 ok)
    obtain⟨p,u1,u2,hp,rfl,rfl,y1,y2⟩:=y
    obtain⟨d1,d2,w1,w2,rfl⟩:=Zp1 hd
    obtain⟨c1,k1,t1⟩:=Prd.get Q1 w1
    obtain⟨c2,k2,t2⟩:=Prd.get Q2 w2
    have x1:=y1 _ g1
    have x2:=y2 _ g2
    rw[k1] at x1
    rw[k2] at x2
    cases x1
    cases x2
    exact⟨ι2,Le.fresh hp _,h2.tup hp _,Zbc.mpr ⟨p,_,rfl,SqT.of Zaq,.cons (t1.mono (Le.fresh hp _)) (.cons (t2.mono (Le.fresh hp _)) .nil)⟩⟩
   ·obtain⟨ws1,g1,Q1⟩:=at1 H2 ι2 Hd2 l2' h2 (ok1 ok)
    obtain⟨ws2,g2,Q2⟩:=at2 H2 ι2 Hd2 l2' h2 (ok2 ok)
    rw[Zk0] at hi
    dsimp only at hi
    have z1:=Prd.len Q1
    have z2:=Prd.len Q2
    exact⟨ws1,ws2,g1,g2,by omega⟩
  ·obtain⟨c1,c2,l,m,xs,ys,rfl,o1,o2,q2⟩:=q2
   obtain⟨u1,u2,rfl,ru1,ru2⟩:=Zwh r2
   cases ru1
   cases ru2
   obtain⟨its,_,p1⟩:=Zgz I2 o1
   obtain⟨jts,_,p2⟩:=Zgz I2 o2
   refine Ztr p1 p2 fun h' hz ha hb hc hd kk=>?_
   have I3:Inv X pins σ H2 { s1 with heap:=h' }:=I2.kept (t':=s1.toks) kk
   refine wpAny_pyIter_zip (s:={ s1 with heap:=h' }) hz ?_
   have ne:∀ {i j:Nat},i≠j->(s1.heap.objs.size+i:Nat)≠s1.heap.objs.size+j:=fun h z=>h (Nat.add_left_cancel z)
   have F5:Five (s1.heap.objs.size+4) (s1.heap.objs.size+2) (s1.heap.objs.size+3) s1.heap.objs.size (s1.heap.objs.size+1) :=
    ⟨ne (by decide),ne (by decide),ne (i:=0) (by decide),ne (by decide),ne (by decide),ne (j:=0) (by decide),ne (by decide),ne (j:=0) (by decide),ne (by decide),ne (i:=0) (by decide)⟩
   refine⟨s1.heap.objs.size+4,[s1.heap.objs.size+4,s1.heap.objs.size+2,s1.heap.objs.size+3,s1.heap.objs.size,s1.heap.objs.size+1],_,ItzS X.K c1 c2 l m,H2,rfl,I3,Zs1 c1 c2 l m _ _ _ _ _ F5,⟨hz,ha,⟨_,_,hb⟩,hc,hd⟩,fun b hb=>?_,q2⟩
   have:s1.heap.objs.size<=b:=by
    simp only[Xh,Wbs,or_false] at hb
    rcases hb with rfl | rfl | rfl | rfl | rfl<;>first | exact Nat.le_add_right _ _ | exact Xd _
   exact I2.fpOk (b:=b) (H':=H2) this (I2.hok.fresh this)
 ·cases e
section
variable {X:Cx} {e:Vv} {pos:Pos}
nonrec def Yad:SF:=fun _ _=>none
theorem Zti {st:Uae}:PSf X st Yad:=by
 rintro pins s σ H E I ⟨ι,σd,Hd,fl,σd',Hd',_,_,e,_⟩
 cases e
nonrec def Zvw:D->Option Int
 | .int i=>some i
 | _=>none
nonrec def sAug (g:Int->Int->Int) (i:Nat) (f:EF):SF:=fun σ H=>((σ[i]?).join.bind Zvw).bind fun a=>(f σ H).bind fun p=>(Zvw p.1).map fun b=>(.nx,σ.set i (some (.int (g a b))),p.2)
theorem Zj5 {d:D} {i:Int} (h:Zvw d=some i):d=.int i:=by
 cases d<;>simp[Zvw] at h
 rw[h]
theorem Zzq {i:Nat} {x:Str} {f:EF} {op:Udz} {g:Int->Int->Int} {pos':Pos} (ho:PIp X op (ipI g)) (hN:X.N.Nodup) (hi:X.N[i]? = some x) (hx:Loc X.env.scope x) (he:PEf X e f)
  (hf:X.fn x=true\/X.env.scope.names.lookup x=some .local:=by first | exact .inl rfl | exact .inr rfl | assumption):PSf X (.AugAssign (.Name x pos') op e pos) (sAug g i f):=by
 refine PSi (Ydl hN hi hx he ho hf) fun E σ H zz=>?_
 obtain⟨ι,σd,Hd,fl,σd',Hd',s,hr,e,q⟩:=zz
 obtain⟨a,e0,e⟩:=Zo e
 obtain⟨d,e1,e2⟩:=Zo e0
 have:=Zj5 e2
 subst this
 obtain⟨⟨y,H1⟩,e3,e⟩:=Zo e
 obtain⟨b,e4,e⟩:=Zm e
 have:=Zj5 e4
 dsimp only at this e
 subst this
 cases e
 have hv:σd[i]? = some (some (.int a)):=by
  cases hx:σd[i]? with
  | none=>rw[hx] at e1; cases e1
  | some o=>rw[hx] at e1; exact congrArg some e1
 obtain⟨v,h1,h2⟩:=s.var i _ hv
 simp at h2
 subst h2
 refine⟨_,h1,ι,σd,Hd,_,_,s,hr,e3,fun v H' ι' l h r=>?_⟩
 simp at r
 subst r
 refine⟨a,b,rfl,rfl,q _ H' ι' l h ((s.mono l).set (by simp) i)⟩
end
structure BlkOk2 (X:Cx) (scope:Ubm) (x y:Str) (cn:List Str) (ci:List Nat):Prop where
 kind:scope.kind=.function
 nocell:∀ y∈scope.names,y.2≠.cell
 names:∀ y∈scope.names,y.2=.local->scope.names.lookup y.1=some .local
 tgt:scope.names.lookup x=some .local
 tgt2:scope.names.lookup y=some .local
 free:∀ y∈scope.names,y.2=.free->(X.env.cells.lookup y.1).isSome=true
 nd:(x::y::cn).Nodup
 len:ci.length=cn.length
 cap:∀ (j:Nat) (y:Str),cn[j]? = some y->∃ i,ci[j]? = some i/\X.N[i]? = some y/\scope.names.lookup y=some .free/\(X.env.kindOf y=some .cell\/X.env.kindOf y=some .free)
section
variable {X:Cx} {pins:List (Ve×Obj)} {σ:L2.St} {H:Hp} {s:Vd} {scope:Ubm} {x y0:Str} {cn:List Str} {ci:List Nat} {fp:List Ve}
theorem Zwb {h₁:Vz} {tk:Nat} {o₁:Obj} (I:Inv X pins σ H s) (B:BlkOk2 X scope x y0 cn ci) (hf:∀ b∈fp,Zko X pins H b) (hlt:∀ b∈fp,b<s.heap.objs.size)
  (hns:h₁.Ns s.heap.objs.size (fun _=>none)) (hsb:Xz s.heap.objs.size (s.heap.push o₁) h₁) :
  Inv (blk X scope (x::y0::cn) (Zhu X.env scope.names []) s.heap.objs.size s H fp (X.pn++pins)) [] (none::none::Zjm ci σ) H { s with heap:=h₁,toks:=tk }:=by
 have old:∀ b o,s.heap.get? b=some o->h₁.get? b=some o:=fun b o e=>hsb.extBut b o (Xi (Xf e)) (Xa _ e)
 have sub:=Zgx X.env scope.names [] (by intro x c h; simp at h)
 have has:∀ y,(y,Ue)∈scope.names->∃ c,(Zhu X.env scope.names []).lookup y=some c:=fun y hy =>
  Waj.mp (Zk3 X.env scope.names [] y (.inr ⟨hy,B.free _ hy rfl⟩))
 refine⟨⟨I.ok.mod,B.kind,I.ok.glob,I.ok.blt,Xd _,fun y z c h1 h2=>I.ok.inj y z c (sub y c h1) (sub z c h2),fun y hy=>has y (Ze9 B.nocell hy),fun y c hy=>absurd hy (by show ¬ (false=true); simp),I.ok.hd,I.ok.frames,.inl rfl,
   fun b hb=>⟨Xi (hlt b hb),fun y c e=>(hf b hb).2.2.2.2.1 y c (sub y c e)⟩,I.bs,Waf I.ok.bsz I.sz,fun b o e hb=>?_,fun b hb z=>?_,I.stack,I.stkFree⟩,
  rfl,I.bare,Un.kept old,⟨_,hns,fun i y v h1 h2 h3=>?_⟩,fun y c e=>?_,I.hok.fresh (Xd _),fun y c e=>(I.freeC y c (sub y c e)).imp id fun z=>⟨rfl,z.2⟩,fun p hp=>?_,I.hok.kept old,?_⟩
 ·rcases(hf b hb).2.2.2.1 with z | z
  ·exact I.ok.noex b o e z
  ·exact absurd (Xj (Xf e) (Waf I.ok.bsz z)) (Wbg _)
 ·exact(Xh.mp (I.stkSub b z)).elim (hf b hb).2.1 (hf b hb).2.2.1
 ·match i,h1,h2 with
  | 0,h1,h2=>simp at h2
  | 1,h1,h2=>simp at h2
  | j+2,h1,h2 =>
   have h1':cn[j]? = some y:=by simpa [blk] using h1
   have h2':(Zjm ci σ)[j]? = some (some v):=by simpa using h2
   obtain⟨i,e1,e2,e3,e4⟩:=B.cap j y h1'
   have e5:σ[i]? = some (some v):=by
    unfold Zjm at h2'
    rw[Xp,e1] at h2'
    simp at h2'
    cases e:σ[i]? with
    | none=>rw[e] at h2'; cases h2'
    | some o=>rw[e] at h2'; simp at h2'; rw[h2']
   obtain⟨m,hn,hl⟩:=I.loc
   have hv:Vis X.env.scope y:=by
    rcases e4 with e4 | e4
    ·exact .inr (.inl e4)
    ·exact .inr (.inr e4)
   obtain⟨u,r,l⟩:=hl i y v e2 e5 hv
   refine⟨u,r,.inr ⟨Zf7 e3,?_⟩⟩
   obtain⟨c,ec⟩:=has y (Uj e3)
   refine⟨c,ec,?_⟩
   rcases l with ⟨l,_⟩ | ⟨_,c',ec',hc⟩
   ·rcases e4 with e4 | e4<;>rw[e4] at l<;>cases l
   ·rw[sub y c ec] at ec'
    cases ec'
    obtain⟨ob,q1,q2⟩:=hc
    exact⟨ob,old _ _ q1,q2⟩
 ·obtain⟨v,ob,q1,q2⟩:=I.cell y c (sub y c e)
  exact⟨v,ob,old _ _ q1,q2⟩
 ·have hp':p∈X.pn++pins:=by simpa [blk] using hp
  obtain⟨q1,q2,q3,q4,q5⟩:=I.pin p hp'
  refine⟨old _ _ q1,q2,Xi (Xf q1),fun z=>?_,q5⟩
  exact(Xh.mp (I.stkSub p.1 z)).elim q3 q4
 ·simp[blk,Zjm,B.len]
def LcW2 (K:Xb) (J:It) (ci:List Nat) (tt:TT) (te:TE) (σ:L2.St) (Q:VK) (H1:Hp):Prop:=∀ p,H1 p=none->∃ W:Nat->Nat->List V->Hp->Prop,(∃ m,W 0 m [] (upd H1 p (.lst [])))/\∀ i m ys H,W i m ys H ->
 H p=some (.lst ys)/\((J.stop i H/\Q (.ref p) H)\/(J.go i H/\∀ v H',J.yld i H v H'->∃ a v1 v2,v=.ref a/\SqT K H' a [v1,v2]/\tt (some v1::some v2::Zjm ci σ) H' fun b H2 =>
  if b=true then te (some v1::some v2::Zjm ci σ) H2 fun y H3=>H3 p=some (.lst ys)/\ys.length<sizeLine/\∃ m',m'<m/\W (i+1) m' (ys++[y]) (upd H3 p (.lst (ys++[y])))
  else ∃ m',m'<m/\W (i+1) m' ys H2))
theorem Zu3 {elt iter:Vv} {px py pt pos:Pos} {kt:Nat} {ifs:List Vv} {tt:TT} {te:TE} {Q:VK} {E:Vb->Vd->Prop} {RR:Vb->Ve->Result->Vd->Prop} {it:Ve} {tn:Nat->Vz->Prop} {J:It}
  (I:Inv X pins σ H s) (hc:X.calm=true) (B:BlkOk2 X scope x y0 cn ci) (T:Turn X.prog X.w X.K (.Tuple [.Name x px,.Name y0 py] kt pt) J fp it tn) (st:tn 0 s.heap) (hf:∀ b∈fp,Zko X pins H b)
  (ht:∀ cl C s H fp pn,PTs (blk X scope (x::y0::cn) cl C s H fp pn) ifs tt) (he:∀ cl C s H fp pn,PE (blk X scope (x::y0::cn) cl C s H fp pn) elt te)
  (hw:LcW2 X.K J ci tt te σ Q H) (hRR:∀ p C H' s',Inv X pins σ H' s'->Gone X pins H' s' C->Q (.ref p) H'->RR (.ref p) C (.ok .next) s') :
  Vf (Vm X.prog X.w) X.A (Uen []) (fun acc s₃=>Vf (Vm X.prog X.w) X.A (newFunctionEnv scope X.env.globals (Zhu X.env scope.names []) [] X.env.qual none .none (some X.env)) (fun cenv s₄ =>
   Ucn (Vm X.prog X.w) X.A (.compStart (.ListComp elt [⟨.Tuple [.Name x px,.Name y0 py] kt pt,iter,ifs,0⟩] scope pos) 0 (.ref it) acc { cenv with scope:=relabel scope X.env }) (RR acc cenv.locals) s₄) E s₃) E s:=by
 have hp0:H s.heap.objs.size=none:=I.hok.fresh (Xd _)
 obtain⟨W,⟨m0,w0⟩,turn⟩:=hw _ hp0
 refine Vs (Ucy B.nocell (by intro y hy; simp at hy) (fun h₁ hns₁ hsb₁=>?_) B.kind)
 dsimp only at hns₁ hsb₁ ⊢
 have I3:Inv X pins σ (upd H s.heap.objs.size (.lst [])) { s with heap:=s.heap.push { cls:=.type "list",dict:=none,data:=.seq ([]:List Vb).toArray } } :=
  I.laid (t':=s.toks) (fun b u e=>Xa _ e) (Xd _) ⟨Wbb _,[],0,.nil,Xe _ rfl⟩
 generalize hH3:s.heap.push { cls:=.type "list",dict:=none,data:=.seq ([]:List Vb).toArray }=hp3 at hns₁ hsb₁ I3 ⊢
 have flt:∀ b∈fp,b<s.heap.objs.size:=fun b hb=>by
  obtain⟨o,e,_⟩:=T.obj 0 _ st b hb
  exact Xf e
 have sz3:hp3.objs.size=s.heap.objs.size+1:=by rw[<- hH3,Wao]
 have f3:∀ b∈fp,Zko X pins (upd H s.heap.objs.size (.lst [])) b:=fun b hb=>⟨by rw[Zah (Xi (flt b hb))]; exact(hf b hb).1,(hf b hb).2⟩
 have old3:∀ b o,s.heap.get? b=some o->hp3.get? b=some o:=fun b o e=>by rw[<- hH3]; exact Xa _ e
 have I4:=Zwb (s:={ s with heap:=hp3 }) (tk:=s.toks+([]:List (Str×Vb)).length) I3 B f3 (fun b hb=>by show b<hp3.objs.size; rw[sz3]; exact Wbx (flt b hb)) (by simpa using hns₁) hsb₁
 have old4:∀ b o,hp3.get? b=some o->h₁.get? b=some o:=fun b o e=>hsb₁.extBut b o (Xi (Xf e)) (Xa _ e)
 generalize hX':blk X scope (x::y0::cn) (Zhu X.env scope.names []) hp3.objs.size { s with heap:=hp3 } (upd H s.heap.objs.size (.lst [])) fp (X.pn++pins)=X' at I4
 have ePr:X'.prog=X.prog:=by rw[<- hX']; rfl
 have eW:X'.w=X.w:=by rw[<- hX']; rfl
 have eK:X'.K=X.K:=by rw[<- hX']; rfl
 have eA:X'.A=X.A:=by rw[<- hX']; rfl
 have eEnv:X'.env=Ubs scope (Zhu X.env scope.names []) hp3.objs.size X.env:=by rw[<- hX']; rfl
 have eEx:X'.ex=fp:=by rw[<- hX']; rfl
 have ht':PTs X' ifs tt:=by rw[<- hX']; exact ht _ _ _ _ _ _
 have he':PE X' elt te:=by rw[<- hX']; exact he _ _ _ _ _ _
 have eXe:X'.xe=fun _ _=>False:=by rw[<- hX']; rfl
 have hg':PG X' (.Tuple [.Name x px,.Name y0 py] kt pt) (gTup X.K 2 (Zub (Zk2 0) (Zub (Zk2 1) gNil))):=by
  rw[<- hX']
  exact Zxn (X:=blk X scope (x::y0::cn) _ _ _ _ _ _) hc (Zkz (Zlb (X:=blk X scope (x::y0::cn) _ _ _ _ _ _) B.nd rfl (.inl (Uac B.tgt)) (.inr (Uac B.tgt))) (Zkz (Zlb (X:=blk X scope (x::y0::cn) _ _ _ _ _ _) B.nd rfl (.inl (Uac B.tgt2)) (.inr (Uac B.tgt2))) Ztd))
 -- the iterator's objects, seen from the block
 have stat:∀ {H':Hp},(∀ b∈fp,H' b=none)->∀ b∈fp,Zko X' [] H' b:=fun {H'} hn b hb=>by
  rw[<- hX']
  refine⟨hn b hb,(by show b≠hp3.objs.size; rw[sz3]; exact Xi (Wbx (flt b hb))),fun z=>(Xh.mp (I3.stkSub b z)).elim (hf b hb).2.1 (hf b hb).2.2.1,.inl hb,fun y c e=>?_,fun p hp=>?_⟩
  ·exact(hf b hb).2.2.2.2.1 y c (Zgx X.env scope.names [] (by intro x c h; simp at h) y c e)
  ·exact(hf b hb).2.2.2.2.2 p (by simpa [blk] using hp)
 have back:∀ {σ':L2.St} {H':Hp} {s':Vd},Inv X' [] σ' H' s'->Inv X pins σ H' s'/\Gone X pins H' s' hp3.objs.size:=fun {σ' H' s'} I5=>by
  have u:Un (frs X.stack) fp (upd H s.heap.objs.size (.lst [])) H' hp3 s'.heap:=by
   have:=I5.base
   rw[<- hX'] at this
   exact this
  have hok:HOk X.prog X.w H' s'.heap:=by have:=I5.hok; rw[ePr,eW] at this; exact this
  have ho:s'.os=s.os:=by have:=I5.os; rw[<- hX'] at this; exact this
  refine⟨I3.call' ho u hok I5.bare fun b hb=>⟨(hf b hb).2.2.2.1,(hf b hb).2.1,(hf b hb).2.2.2.2.1,(hf b hb).2.2.2.2.2⟩,?_,?_,?_,?_,fun y c e z=>?_,fun p hp z=>?_⟩
  ·obtain⟨m,hn,_⟩:=I5.loc
   rw[eEnv] at hn
   exact⟨m,hn⟩
  ·have:=I5.free
   rw[eEnv] at this
   exact this
  ·exact Wbr (I3.lt)
  ·exact I3.sz
  ·obtain⟨v,q⟩:=I3.cell y c e
   exact absurd (Xj q.lt (by rw[z]; exact Xd _)) (Wbg _)
  ·have:=Xf (I3.pin p hp).1
   rw[z] at this
   exact Wbg _ this
 have loop:Ucn (Vm X.prog X.w) X.A (.compLoop (.ListComp elt [⟨.Tuple [.Name x px,.Name y0 py] kt pt,iter,ifs,0⟩] scope pos) 0 (.ref it) (.ref s.heap.objs.size) (Ubs scope (Zhu X.env scope.names []) hp3.objs.size X.env))
   (RR (.ref s.heap.objs.size) hp3.objs.size) { s with heap:=h₁,toks:=s.toks+([]:List (Str×Vb)).length }:=by
  refine codeAny_loop rfl (fun n s'=>∃ i o o2 ys H',Inv X' [] (o::o2::Zjm ci σ) H' s'/\tn i s'.heap/\(∀ b∈fp,H' b=none)/\W i n ys H') (fun n s' hI=>?_) m0
   ⟨0,none,none,[],_,I4,T.keep _ _ _ st (fun b hb o e=>old4 b o (old3 b o e)),fun b hb=>(f3 b hb).1,w0⟩
  obtain⟨i,o,o2,ys,H',I5,st5,fr5,w5⟩:=hI
  show Vf _ X.A ((compTurn (.ListComp elt [⟨.Tuple [.Name x px,.Name y0 py] kt pt,iter,ifs,0⟩] scope pos) 0 (.ref it) (.ref s.heap.objs.size) (Ubs scope (Zhu X.env scope.names []) hp3.objs.size X.env)).onRaise (fun x=>do noteFrame x (Ubs scope (Zhu X.env scope.names []) hp3.objs.size X.env); theTreesLotGoes x)) _ _ s'
  refine wpAny_noted ?_
  rw[compTurn_list,<- eEnv,<- ePr,<- eW,<- eA]
  refine Uan (E:=fun _ _=>False) ?_ (fun _ _ q=>q) (fun _ _ z=>z.elim)
  obtain⟨hpl,wt⟩:=turn i n ys H' w5
  refine Va (Ubn (Va ?_))
  rcases wt with ⟨stop,q⟩ | ⟨go,step⟩
  ·have z:=T.done X' ePr eW eK (by rw[<- hX']; exact hc) i [] s' _ H' (fun _ _=>False) I5 (stat fr5) st5 stop
   rw[<- ePr,<- eW] at z
   refine thn z fun r s6 zz=>?_
   obtain⟨hr,I6⟩:=zz
   subst hr
   obtain⟨J1,g1⟩:=back I6
   exact Vc (hRR _ _ H' s6 J1 g1 q)
  ·have z:=T.item X' ePr eW eK (by rw[<- hX']; exact hc) i [] s' _ H' (fun _ _=>False) I5 (stat fr5) st5 go
   rw[<- ePr,<- eW] at z
   refine thn z fun r s6 zz=>?_
   obtain⟨u,hr,h6⟩:=zz
   subst hr
   refine Va (thn h6 fun _ s7 zz=>?_)
   obtain⟨v,H7,I7,r7,y7,st7,fr7⟩:=zz
   have I7':=I7.pinned (stat fr7) (T.obj _ _ st7)
   rw[<- eXe]
   obtain⟨a7,v1,v2,ev,sq,step7⟩:=step v _ y7
   refine Va (thn (hg' _ s7 _ H7 v u _ I7' r7 (show gTup X.K 2 (Zub (Zk2 0) (Zub (Zk2 1) gNil)) v (o::o2::Zjm ci σ) H7 (fun σ8 H8=>σ8=some v1::some v2::Zjm ci σ/\H8=H7) from⟨a7,[v1,v2],ev,sq,rfl,⟨v1,[v2],rfl,v2,[],rfl,rfl,rfl,rfl⟩⟩)) fun _ s8 zz=>?_)
   obtain⟨σ8,H8,I8,e8,e8'⟩:=zz
   subst e8 e8'
   refine Va (thn (ht' _ s8 _ _ _ I8 step7) fun b s9 zz=>?_)
   obtain⟨H9,I9,q9⟩:=zz
   have tnK:∀ {σ':L2.St} {H':Hp} {s':Vd},Inv X' (([]:List (Ve×Obj))++Zka fp s7.heap) σ' H' s'->tn (i+1) s'.heap/\∀ b∈fp,H' b=none:=fun {σ' H' s'} I' =>
    ⟨T.keep _ _ _ st7 fun b hb o e=>(I'.pin (b,o) (Xr _ (Xr _ (Zdk hb e)))).1,fun b hb=>by
     obtain⟨ob,e,d⟩:=T.obj _ _ st7 b hb
     exact(I'.pin (b,ob) (Xr _ (Xr _ (Zdk hb e)))).2.1⟩
   cases b with
   | false =>
    obtain⟨m',hm,w9⟩:=q9
    obtain⟨t9,f9⟩:=tnK I9
    exact Vc ⟨rfl,m',hm,i+1,_,_,ys,H9,I9.unpinned,t9,f9,w9⟩
   | true =>
    refine Va (Va (thn (he' _ s9 _ _ _ I9 q9) fun yv s10 zz=>?_))
    obtain⟨y,H10,I10,r10,hp10,hz10,m',hm,w10⟩:=zz
    refine Va (thn (Zi1 (X:=X') _ s10 _ H10 (.ref s.heap.objs.size) [y] (.ref s.heap.objs.size) [yv] (fun _ H11=>H11=upd H10 s.heap.objs.size (.lst (ys++[y]))) I10 rfl (.cons r10 .nil) ⟨_,ys,y,rfl,rfl,hp10,hz10,rfl⟩) fun _ s11 zz=>?_)
    obtain⟨_,H11,I11,_,e11⟩:=zz
    subst e11
    obtain⟨t11,f11⟩:=tnK I11
    exact Vc (Vc ⟨rfl,m',hm,i+1,_,_,ys++[y],_,I11.unpinned,t11,f11,w10⟩)
 exact Uch loop (T.self _ 0 _ _ _ (T.keep _ _ _ st (fun b hb o e=>old4 b o (old3 b o e))) loop)
nonrec def tLC2 (K:Xb) (wi:TI) (ci:List Nat) (tt:TT) (te:TE):TE:=fun σ H Q=>wi σ H fun J H1=>LcW2 K J ci tt te σ Q H1
theorem Ycy {elt iter:Vv} {px py pt pos:Pos} {kt:Nat} {ifs:List Vv} {wi:TI} {tt:TT} {te:TE} (hc:X.calm=true) (B:BlkOk2 X scope x y0 cn ci) (hi:PI X (.Tuple [.Name x px,.Name y0 py] kt pt) iter wi)
  (ht:∀ cl C s H fp pn,PTs (blk X scope (x::y0::cn) cl C s H fp pn) ifs tt) (he:∀ cl C s H fp pn,PE (blk X scope (x::y0::cn) cl C s H fp pn) elt te)
  (hs:∀ x,Vx iter X.env x=pure x:=by rintro _; rfl):PE X (.ListComp elt [⟨.Tuple [.Name x px,.Name y0 py] kt pt,iter,ifs,0⟩] scope pos) (tLC2 X.K wi ci tt te):=by
 intro pins s σ H Q I h
 rw[eval_ListComp]
 refine Uay (use:=none) rfl hs (Zha X.env scope B.free) B.kind B.names ?_
 refine thn (hi pins s σ H _ I h) fun v s1 h1=>thn h1 fun itv s2 h2=>?_
 obtain⟨it,fp,tn,J,H2,e,I2,T,st2,f2,w2⟩:=h2
 subst e
 refine Zu3 (RR:=fun acc C=>compPost (Vm X.prog X.w) X.A X.xe none (EP X pins σ Q) acc C) I2 hc B T st2 f2 ht he w2 fun p C H' s' I' g q=>?_
 obtain⟨m,hn⟩:=g.ns
 exact⟨m,hn,fun h' hs'=>⟨.ref p,H',g.go I' hs',rfl,q⟩⟩
end
nonrec def Ydq (sc scope:Ubm) (N:List Str) (x y:Str) (cn:List Str) (ci:List Nat):Bool :=
 (scope.kind==.function)&&scope.names.all (fun y=>y.2 != .cell)&&scope.names.all (fun y=>y.2 != .local||scope.names.lookup y.1==some .local)&&(scope.names.lookup x==some .local)&&(scope.names.lookup y==some .local) &&
 scope.names.all (fun y=>y.2 != .free||sc.names.lookup y.1==some .cell)&&decide (x::y::cn).Nodup&&(ci.length==cn.length) &&
 (cn.zip ci).all (fun p=>N[p.2]? == some p.1&&scope.names.lookup p.1==some .free&&sc.names.lookup p.1==some .cell)
theorem Zzn {P:Vh} {w:Vu} {K:Xb} {mg:Str->Option Vb} {base:Vz} {N:List Str} {qual:Str} {sc scope:Ubm} {f:Ve} {cdv:Vb} {A:Vt} {outer:List Env} {s:Vd} {H:Hp} {E:XK} {x y0:Str} {cn:List Str} {ci:List Nat}
  (h:Ydq sc scope N x y0 cn ci=true):BlkOk2 (Zln CX0 P w K mg base N qual sc f cdv A outer s H E).nox scope x y0 cn ci:=by
 unfold Ydq at h
 simp only[Wam,Wab,Weo,bne_iff_ne,ne_eq,beq_iff_eq,decide_eq_true_eq] at h
 obtain⟨⟨⟨⟨⟨⟨⟨⟨h1,h2⟩,h3⟩,h4⟩,h4b⟩,h5⟩,h6⟩,h7⟩,h8⟩:=h
 refine⟨h1,fun y hy=>h2 y hy,fun y hy hl=>(h3 y hy).resolve_left fun z=>z hl,h4,h4b,fun y hy hf=>?_,h6,h7,fun j y hj=>?_⟩
 ·have:=(h5 y hy).resolve_left fun z=>z hf
  obtain⟨c,hc⟩:=Zh4 (n:=s.heap.objs.size+1) this
  exact Waj.mpr ⟨c,hc⟩
 ·have hl:j<ci.length:=by rw[h7]; exact(Xc.mp hj).1
  have hm:(y,ci[j])∈cn.zip ci:=by
   refine Wbn.mpr ⟨j,?_⟩
   rw[Wdy]
   exact⟨hj,by simp[hl]⟩
  obtain⟨⟨k1,k2⟩,k3⟩:=h8 _ hm
  exact⟨ci[j],by simp[hl],k1,k2,.inl k3⟩
open Builtin.SmallTypes (nextOf)
section
variable {prog:Vh} {w:Vu} {A:Vt} {E:Vb->Vd->Prop} {s:Vd}
theorem Zt0 {j t:Ve} {i:Nat} {its:Array Vb} {x:Vb} {Q:Vb->Vd->Prop} (hj:s.heap.IsListIter j t i) (ht:s.heap.IsList t its) (hx:its[i]? = some x)
  (hQ:∀ h',h'.IsListIter j t (i+1)->Xz j s.heap h'->Q x { s with heap:=h' }):Vf (Vm prog w) A (nextOf (.ref j)) Q E s :=
 Zkf (b:=true) hj ht hx hQ
theorem Zvn {j t:Ve} {i:Nat} {its:Array Vb} {Q:Vb->Vd->Prop} (hh:A.handled=none) (hj:s.heap.IsListIter j t i) (ht:s.heap.IsList t its) (hx:its[i]? = none)
  (hE:∀ h' e,Wdo j s.heap h'->(∃ o,h'.get? e=some o/\o.cls=.type "StopIteration")->E (.ref e) { s with heap:=h' }):Vf (Vm prog w) A (nextOf (.ref j)) Q E s :=
 Zur (b:=true) hh hj ht hx hE
theorem Zqs {e j t:Ve} {i:Nat} {c:Int} {its:Array Vb} {x old:Vb} {Q:Option Vb->Vd->Prop} (he:Uau s.heap e j c old) (hj:s.heap.IsListIter j t i) (ht:s.heap.IsList t its) (hx:its[i]? = some x) (hne:e≠j)
  (hQ:∀ h' tk,Ucq h' e j (c+1) x s.heap.objs.size->h'.IsListIter j t (i+1)->h'.get? s.heap.objs.size=some { cls:=.type "tuple",data:=.seq #[.int c tk,x] }->h'.objs.size=s.heap.objs.size+1 ->
   (∀ b o,b≠e->b≠j->s.heap.get? b=some o->h'.get? b=some o)->Q (some (.ref s.heap.objs.size)) { s with heap:=h',toks:=s.toks+1 }) :
  Vf (Vm prog w) A (Ubj (.ref e)) Q E s:=by
 have hT:s.TypeIs (.ref e) "enumerate" := ⟨_,he,rfl⟩
 unfold Ubj
 refine Va (Uam (Vi (name:=Ua "__next__") hT Uk (Vp Uk hT Tae ?_ (Tab _))))
 obtain⟨hp,g,d,tk,os⟩:=s
 show Vf _ _ (Udl (.ref e) 2 >>= _) _ _ _
 refine Va (Vn he rfl (x:=.ref j) rfl (Va (Zt0 hj ht hx fun h1 j1 s1=>?_)))
 replace s1:Xz j hp h1:=s1
 have e1:Uau h1 e j c old:=(s1.2 e hne).trans he
 show Vf _ _ (Udl (.ref e) 3 >>= _) _ _ ⟨h1,g,d,tk,os⟩
 refine Va (Vn e1 rfl (x:=Uaa c) rfl ?_)
 show Vf _ _ (Udl (.ref e) 4 >>= _) _ _ ⟨h1,g,d,tk,os⟩
 refine Va (Vn e1 rfl (x:=.none) rfl ?_)
 show Vf _ _ (mkInt c >>= _) _ _ ⟨h1,g,d,tk,os⟩
 refine Va (Ueh ?_)
 show Vf _ _ (Udr (.ref e) 3 (Uaa (c+1)) >>= _) _ _ ⟨h1,g,d,tk+1,os⟩
 refine Va (Vk e1 (by simp) fun h2 e2 s2=>?_)
 replace s2:Xz e h1 h2:=s2
 replace e2:Uau h2 e j (c+1) old:=e2
 show Vf _ _ (Udr (.ref e) 4 .none >>= _) _ _ ⟨h2,g,d,tk+1,os⟩
 refine Va (Vk e2 (by simp) fun h3 e3 s3=>?_)
 replace s3:Xz e h2 h3:=s3
 replace e3:Uau h3 e j (c+1) old:=e3
 show Vf _ _ (newTuple [.int c tk,x] >>= _) _ _ ⟨h3,g,d,tk+1,os⟩
 refine Va (Ude ?_)
 have e4:Uau (h3.push { cls:=.type "tuple",data:=.seq #[.int c tk,x] }) e j (c+1) old:=Xa _ e3
 generalize q4:h3.push { cls:=.type "tuple",data:=.seq #[.int c tk,x] }=h4 at e4
 have zz:h3.objs.size=hp.objs.size:=by rw[s3.1,s2.1,s1.1]
 have lt:e<hp.objs.size:=Xf he
 have t4:h4.get? hp.objs.size=some { cls:=.type "tuple",data:=.seq #[.int c tk,x] }:=by rw[<- q4,<- zz]; exact Xe _ rfl
 have z4:h4.objs.size=hp.objs.size+1:=by rw[<- q4,Wao,zz]
 have k4:∀ b o,b≠e->b≠j->hp.get? b=some o->h4.get? b=some o:=fun b o n1 n2 q=>by
  rw[<- q4]; exact Xa _ (s3.extBut b o n1 (s2.extBut b o n1 (s1.extBut b o n2 q)))
 have j4:h4.IsListIter j t (i+1):=by
  obtain⟨o,ho,r⟩:=id j1
  exact⟨o,by rw[<- q4]; exact Xa _ (s3.extBut j o (Uo hne) (s2.extBut j o (Uo hne) ho)),r⟩
 show Vf _ _ (Uc (.ref e) >>= _) _ _ ⟨h4,g,d,tk+1,os⟩
 rw[zz]
 clear q4 e3 s3 e2 s2 e1 s1 j1 zz h3 h2 h1
 refine Va ?_
 unfold Uc
 refine Va (Vn e4 rfl (x:=.none) rfl (Vc ?_))
 simp only[if_true]
 refine Va (Ubi (Va (Vn e4 rfl (x:=old) rfl (Va (Vk e4 (by simp) fun h5 e5 s5=>?_)))))
 replace s5:Xz e h4 h5:=s5
 replace e5:Uau h5 e j (c+1) x:=e5
 show Vf _ _ (Ud (.ref e) (.ref hp.objs.size) >>= _) _ _ ⟨h5,g,d,tk+1,os⟩
 refine Va ?_
 unfold Ud
 refine Va (Vk e5 (by simp) fun h6 e6 s6=>?_)
 replace s6:Xz e h5 h6:=s6
 replace e6:Ucq h6 e j (c+1) x hp.objs.size:=e6
 refine Vk e6 (by simp) fun h7 e7 s7=>?_
 replace s7:Xz e h6 h7:=s7
 replace e7:Ucq h7 e j (c+1) x hp.objs.size:=e7
 have up:∀ b o,b≠e->h4.get? b=some o->h7.get? b=some o:=fun b o n q=>s7.extBut b o n (s6.extBut b o n (s5.extBut b o n q))
 refine Va (Ubp (Vc ⟨_,rfl,Vc (hQ h7 tk e7 ?_ (up _ _ (Wbr lt) t4) (by rw[s7.1,s6.1,s5.1,z4]) fun b o n1 n2 q=>up b o n1 (k4 b o n1 n2 q))⟩))
 obtain⟨o,ho,r⟩:=id j4
 exact⟨o,up j o (Uo hne) ho,r⟩
theorem Zqx {e j t:Ve} {i:Nat} {c:Int} {its:Array Vb} {old:Vb} {Q:Option Vb->Vd->Prop} (hh:A.handled=none) (he:Uau s.heap e j c old) (hj:s.heap.IsListIter j t i) (ht:s.heap.IsList t its) (hx:its[i]? = none)
  (hQ:∀ h',Wdo j s.heap h'->Q none { s with heap:=h' }):Vf (Vm prog w) A (Ubj (.ref e)) Q E s:=by
 have hT:s.TypeIs (.ref e) "enumerate" := ⟨_,he,rfl⟩
 unfold Ubj
 refine Va (Uam (Vi (name:=Ua "__next__") hT Uk (Vp Uk hT Tae ?_ (Tab _))))
 show Vf _ _ (Udl (.ref e) 2 >>= _) _ _ _
 refine Va (Vn he rfl (x:=.ref j) rfl (Va (Zvn hh hj ht hx fun h' z he' zz=>?_)))
 obtain⟨o,ho,hc⟩:=zz
 exact Va (Ubk (T := "StopIteration") (b:=true) ⟨o,ho,hc⟩ Ubx (Vc (hQ _ he')))
open AutoSeq1 (wpAny_loadPart') in
theorem Zsr (t:Ve) (its:Array Vb) (n:Nat) (dct:Option Ve) (sl:Array (Option Vb)) :
  Uek (Builtin.«enumerate.__new__» ⟨[.type "enumerate",.ref t],[]⟩) (fun _ R s=>s.heap.get? t=some { cls:=.type "list",dict:=dct,data:=.seq its n,slots:=sl } /\
   R (.ok (.ret (.ref (s.heap.push { cls:=.type "list_iterator",data:=.fields #[.ref t,.int 0 0] }).objs.size)))
    { s with heap:=(s.heap.push { cls:=.type "list_iterator",data:=.fields #[.ref t,.int 0 0] }).push { cls:=.type "enumerate",data:=.fields #[.none,.bool false,.ref s.heap.objs.size,Uaa 0,.none,.none] } }) :=
 .of_wp fun prog w A R s h=>by
  obtain⟨hp,g,d,tk,os⟩:=s; obtain⟨hl,h⟩:=h
  have hsub:=Uds
  have hL:Heap.IsList (Tbq ⟨hp,g,d,tk,os⟩) t its:=⟨_,hl,rfl,n,rfl⟩
  wp_walk using Vo hl
  refine Ucr fun st=>Vc ?_
  split
  ·rename_i k _ _ _ _ _
   cases (k==Tbn "enumerate")<;>(wp_walk using Vo hl,Uas hL; exact⟨_,rfl,h⟩)
  ·wp_walk using Vo hl,Uas hL
   exact⟨_,rfl,h⟩
theorem Zqz {t:Ve} {its:Array Vb} {Q:Vb->Vd->Prop} (hL:s.heap.IsList t its)
  (h:∀ h',Uau h' (s.heap.objs.size+1) s.heap.objs.size 0 .none->h'.IsListIter s.heap.objs.size t 0->h'.objs.size=s.heap.objs.size+2 ->
   (∀ b o,s.heap.get? b=some o->h'.get? b=some o)->Q (.ref (s.heap.objs.size+1)) { s with heap:=h' }) :
  Vf (Vm prog w) A (call (.type "enumerate") [.ref t]) Q E s:=by
 obtain⟨⟨k,dct,dt,sl⟩,hl,hc,n,hd⟩:=hL
 replace hc:k=.type "list" := hc
 replace hd:dt=.seq its n:=hd
 subst hc hd
 refine Udx Taf (by decide) (Tbu _) (Tbw _) (fun obj=>Tcd obj _) Taq (Zsr t its n dct sl) ⟨hl,?_⟩
 have hz:(s.heap.push { cls:=.type "list_iterator",data:=.fields #[.ref t,.int 0 0] }).objs.size=s.heap.objs.size+1:=Wao ..
 show _/\_
 rw[hz]
 have he:Uau ((s.heap.push { cls:=.type "list_iterator",data:=.fields #[.ref t,.int 0 0] }).push { cls:=.type "enumerate",data:=.fields #[.none,.bool false,.ref s.heap.objs.size,Uaa 0,.none,.none] }) (s.heap.objs.size+1) s.heap.objs.size 0 .none:=by
  have q:=Xe (s.heap.push { cls:=.type "list_iterator",data:=.fields #[.ref t,.int 0 0] }) (o:={ cls:=.type "enumerate",data:=.fields #[.none,.bool false,.ref s.heap.objs.size,Uaa 0,.none,.none] }) rfl
  rw[hz] at q; exact q
 exact⟨⟨_,he,rfl⟩,h _ he ⟨_,Xa _ (Xe _ rfl),rfl,rfl⟩ (by rw[Wao,hz]) fun b o x=>Xa _ (Xa _ x)⟩
end
nonrec def IteL (c:Int) (a:Ve):It :=
 ⟨fun i H=>∃ xs x,H a=some (.lst xs)/\xs[i]? = some x,fun i H v H'=>∃ p x,H p=none/\v=.ref p/\H'=upd H p (.tup [.int (c+i),x])/\∀ xs,H a=some (.lst xs)->xs[i]? = some x,fun i H=>∃ xs,H a=some (.lst xs)/\xs.length<=i⟩
theorem Zq2 {P:Vh} {w:Vu} {K:Xb} {es:List Vv} {k:Nat} {pos:Pos} (a e j:Ve) (c:Int) (hne:e≠j):Turn P w K (.Tuple es k pos) (IteL c a) [e,j] e (fun i h=>∃ old,Uau h e j (c+i) old/\h.IsListIter j a i) where
 mem:=by simp
 obj:=fun i h st b hb=>by
  obtain⟨old,he,o,ho,hc,hd⟩:=st
  rcases Xh.mp hb with rfl | hb
  ·exact⟨_,he,fun v z=>by cases z⟩
  ·have:b=j:=by simpa using hb
   subst this
   exact⟨o,ho,fun v z=>by rw[hd] at z; cases z⟩
 keep:=fun i h h' st kk=>by
  obtain⟨old,he,o,ho,r⟩:=st
  exact⟨old,kk e (by simp) _ he,o,kk j (by simp) o ho,r⟩
 item:=by
  intro X hP hw hK hc i pins s σ H E I hf st hg
  subst hP hw hK
  obtain⟨xs,x,hq,hx⟩:=hg
  obtain⟨old,he,hj⟩:=st
  obtain⟨its,rv,p,hz⟩:=I.list (SqL.of hq)
  obtain⟨u,hu,ru⟩:=rv.get hx
  have fe:=hf e (by simp)
  have fj:=hf j (by simp)
  refine Zqs he hj p.isList (x:=u) (by simpa using hu) hne fun h' tk eo j' t' z' kk=>?_
  refine⟨_,rfl,Ubr (s:={ s with heap:=h',toks:=s.toks+1 }) eo fun h2 e2 s2=>?_⟩
  replace s2:Xz e h' h2:=s2
  have le:e<s.heap.objs.size:=Xf he
  have ne2:s.heap.objs.size≠e:=Wbr le
  -- the iterator's two records have turned, the pair is new
  have t2:h2.get? s.heap.objs.size=some { cls:=.type "tuple",data:=.seq #[.int (c+i) tk,u] }:=s2.extBut _ _ ne2 t'
  have hp0:H s.heap.objs.size=none:=I.hok.fresh (Xd _)
  have up:∀ b o,b∉[e,j]->s.heap.get? b=some o->h2.get? b=some o:=fun b o hb q =>
   s2.extBut b o (fun z=>hb (by simp[z])) (kk b o (fun z=>hb (by simp[z])) (fun z=>hb (by simp[z])) q)
  have I2:Inv X pins σ (upd H s.heap.objs.size (.tup [.int (c+i),x])) { s with heap:=h2,toks:=s.toks+1 }:=by
   refine I.step (g':=s.gens) (d':=s.drawn) (t':=s.toks+1) (ch:=[e,j]) (fun b hb=>?_) (fun b o _ _ hb q n=>up b o hb q) (fun b o _ _ hb q n=>⟨o.slots,up b o hb q⟩) (fun b o _ q n=>?_) (fun b o hb q=>⟨o,up b o hb q⟩) (fun b ys q=>?_) (fun b o y q=>?_) (fun b ps q=>⟨#[],?_⟩) (fun m hm=>?_) (fun b o q=>?_) I.bare
   ·have:=hf b hb; exact⟨this.2.2.2.1,this.2.1,this.2.2.2.2.1,this.2.2.2.2.2⟩
   ·rw[Zah (Xi (Xf q))]; exact n
   ·rw[Zah (Zai q hp0)]; exact q
   ·rw[Zah (Zai q hp0)]; exact q
   ·rw[Zah (Zai q hp0),q]; simp
   ·obtain⟨o,es',ep,ho,r⟩:=hm
    exact⟨o,es',ep,s2.extBut _ o (Uo fe.2.1) (kk _ o (Uo fe.2.1) (Uo fj.2.1) ho),r⟩
   ·by_cases hb:b=s.heap.objs.size
    ·subst hb
     rw[Zaq] at q
     cases q
     exact⟨(by show 2<=sizeLine; decide),[.int (c+i) tk,u],.cons ⟨tk,rfl⟩ (.cons ru .nil),_,t2,rfl,⟨_,rfl⟩,rfl⟩
    ·rw[Zah hb] at q
     refine(I.hok b o q).stay (fun d v hd z=>up d v (fun hm=>?_) z) (fun d z=>by rw[Zah (Zai z hp0)]; exact z) fun d ys z=>by rw[Zah (Zai z hp0)]; exact z
     have:H d≠none:=by
      rcases hd with rfl | hd
      ·rw[q]; simp
      ·rw[hd]; simp
     exact this (hf d hm).1
  refine⟨.ref s.heap.objs.size,_,I2,rfl,⟨_,x,hp0,rfl,rfl,fun ys hy=>by rw[hq] at hy; cases hy; exact hx⟩,?_,fun b hb=>?_⟩
  ·obtain⟨o,ho,r⟩:=id j'
   have ec:c+((i+1:Nat):Int)=c+(i:Int)+1:=by push_cast; omega
   exact⟨u,by rw[ec]; exact e2,o,s2.extBut j o (Uo hne) ho,r⟩
  ·have hb2:b≠s.heap.objs.size:=by
    rcases Xh.mp hb with rfl | hb
    ·exact Xi le
    ·have:b=j:=by simpa using hb
     subst this
     obtain⟨o,ho,_⟩:=id hj
     exact Xi (Xf ho)
   rw[Zah hb2]; exact(hf b hb).1
 done:=by
  intro X hP hw hK hc i pins s σ H E I hf st hg
  subst hP hw hK
  obtain⟨xs,hq,hx⟩:=hg
  obtain⟨old,he,hj⟩:=st
  obtain⟨its,rv,p,hz⟩:=I.list (SqL.of hq)
  obtain⟨f0,f1,f2,f3,f4,f5⟩:=hf j (by simp)
  have hl:=rv.length
  exact Zqx (I.ok.hd hc) he hj p.isList (by simp; omega) fun h' eb=>⟨rfl,I.turned (t':=s.toks) (fun b o hb q=>eb b o hb q) f0 f1 f3 f4 f5⟩
 self:=fun _ _ _ _ _ st h=>by
  obtain⟨old,he,_⟩:=st
  exact Uar he h
nonrec def two2:D->Option (D×D)
 | .tup [a,b]=>some (a,b)
 | _=>none
theorem Zus {x a b:D} (h:two2 x=some (a,b)):x=.tup [a,b]:=by
 unfold two2 at h
 split at h
 ·cases h; rfl
 ·cases h
open Classical in
nonrec def Zef (own:Zgc) (c0:SD) (tt:TF) (te:EF):List D->HD->Option (List D×HD)
 | [],H=>if Zb7 own H then some ([],H) else none
 | x::r,H=>(two2 x).bind fun ab=>if Zb7 own H then (tt (some ab.1::some ab.2::c0) H).bind fun t=>if t.1=true then (te (some ab.1::some ab.2::c0) t.2).bind fun e=>(Zef own c0 tt te r e.2).map fun q=>(e.1::q.1,q.2) else Zef own c0 tt te r t.2 else none
nonrec def Ya6 (it:ItF) (ci:List Nat) (tt:TF) (te:EF):EF:=fun σ H=>(it σ H).bind fun p=>(Zef p.1.2 (Zuo ci σ) tt te p.1.1 p.2).bind fun q=>mkL q.1 q.2
theorem Zq6 {own:Zgc} {c0:SD} {tt:TF} {te:EF} {x:D} {r:List D} {H:HD} {z:List D×HD} (h:Zef own c0 tt te (x::r) H=some z):∃ a b,x=.tup [a,b]/\Zb7 own H/\((tt (some a::some b::c0) H).bind fun t=>if t.1=true then (te (some a::some b::c0) t.2).bind fun e=>(Zef own c0 tt te r e.2).map fun q=>(e.1::q.1,q.2) else Zef own c0 tt te r t.2)=some z:=by
 rw[Zef] at h
 obtain⟨⟨a,b⟩,e,h⟩:=Zo h
 split at h
 ·rename_i ok
  exact⟨a,b,Zus e,ok,h⟩
 ·cases h
section
variable {X:Cx} {scope:Ubm} {x y0:Str} {cn:List Str} {ci:List Nat}
theorem Yb1 {α β:Type} {F:α->β->Prop} {a b:α} {us:List β} (h:Vj F [a,b] us):∃ u v,us=[u,v]/\F a u/\F b v:=by
 cases h with
 | cons p P=>cases P with
  | cons q P=>cases P; exact⟨_,_,rfl,p,q⟩
theorem SRep.cap2 {K:Xb} {H:Hp} {ι:List Ve} {σ:L2.St} {σd:SD} {d e:D} {v u:V} (s:SRep K H ι σ σd) (r:Rep K H ι d v) (r2:Rep K H ι e u):SRep K H ι (some v::some u::Zjm ci σ) (some d::some e::Zuo ci σd):=by
 have c:=SRep.cap (ci:=ci) s r2
 refine⟨by simpa using c.len,fun i z h=>?_⟩
 cases i with
 | zero=>simp at h; subst h; exact⟨v,rfl,r⟩
 | succ j =>
  rw[Wca] at h ⊢
  exact c.var j z h
theorem Yb2 {K:Xb} {it:ItF} {tt:TF} {te:EF} {σ:L2.St} {H:Hp} {Q:VK} (h:rdE K (Ya6 it ci tt te) σ H Q):tLC2 K (rdI K it) ci (rdT K tt) (rdE K te) σ H Q:=by
 obtain⟨ι,σd,Hd,d,Hd',s,hr,e,q⟩:=h
 obtain⟨⟨⟨xs,own⟩,H1⟩,e1,e⟩:=Zo e
 obtain⟨⟨ds,H2⟩,e2,e⟩:=Zo e
 obtain⟨hz,e⟩:=Zlj e
 cases e
 dsimp only at e2 hz
 refine⟨ι,σd,Hd,xs,own,H1,s,hr,e1,fun J H0 ι0 l0 h0 itr p hp=>?_⟩
 have s0:=s.mono l0
 refine⟨fun i m ys H=>m=xs.length - i/\i<=xs.length/\H p=some (.lst ys)/\∃ ι Hd done rest,Le K H0 ι0 H ι/\p∉ι/\HRep K H ι Hd/\Vj (Rep K H ι) done ys/\Zef own (Zuo ci σd) tt te (xs.drop i) Hd=some (rest,H2)/\ds=done++rest,
  ⟨xs.length,by simp,Wbb _,Zaq,ι0,H1,[],ds,Le.fresh hp _,h0.fresh hp,h0.tup hp _,.nil,by simpa using e2,by simp⟩,?_⟩
 rintro i m ys H5 ⟨rfl,hi,hpl,ι5,Hd5,done,rest,l5,np5,h5,pd5,e5,eds⟩
 refine⟨hpl,?_⟩
 by_cases hlt:i<xs.length
 ·have ed:xs.drop i=xs[i]::xs.drop (i+1):=Wau hlt
  rw[ed] at e5
  obtain⟨a1,a2,ex,ok,e5⟩:=Zq6 e5
  obtain⟨⟨b6,H6⟩,e6,e5⟩:=Zo e5
  refine .inr ⟨itr.go i H5 ι5 Hd5 l5 h5 ok hlt,fun v H' y=>?_⟩
  obtain⟨ι6,l6,h6,r6⟩:=itr.yld i H5 ι5 Hd5 xs[i] v H' l5 h5 ok (by simp[hlt]) y
  obtain⟨hp6,np6⟩:=l6.frame p _ hpl np5
  rw[ex] at r6
  obtain⟨a6,ws6,ev6,sq6,P6⟩:=Zbc.mp r6
  obtain⟨u1,u2,rfl,p1,p2⟩:=Yb1 P6
  have s6:=SRep.cap2 (ci:=ci) (s0.mono (l5.trans l6)) p1 p2
  refine⟨a6,u1,u2,ev6,sq6,ι6,_,Hd5,b6,H6,s6,h6,e6,fun H7 ι7 l7 h7=>?_⟩
  obtain⟨hp7,np7⟩:=l7.frame p _ hp6 np6
  have L7:=(l5.trans l6).trans l7
  cases b6 with
  | true =>
   rw[if_pos rfl]
   dsimp only at e5
   rw[if_pos rfl] at e5
   obtain⟨⟨d8,H8⟩,e8,e5⟩:=Zo e5
   obtain⟨⟨r9,H9⟩,e9,e5⟩:=Zm e5
   cases e5
   refine⟨ι7,_,H6,d8,H8,s6.mono l7,h7,e8,fun v8 H8' ι8 l8 h8 rr8=>?_⟩
   obtain⟨hp8,np8⟩:=l8.frame p _ hp7 np7
   have ly:ys.length<sizeLine:=by
    rw[<- Prd.len pd5]
    rw[eds] at hz
    simp at hz
    omega
   have w8:Lw K H8' ι8 (upd H8' p (.lst (ys++[v8]))) ι8:=Lw.side hp8 _
   refine⟨hp8,ly,xs.length - (i+1),by omega,rfl,hlt,Zaq,ι8,H8,done++[d8],r9,(L7.trans l8).side hp hp8 _,np8,h8.keep w8 (fun a ha=>Zah fun z=>by subst z; exact np8 ha),?_,e9,by rw[eds]; simp⟩
   exact Prd.append (Prd.monoW w8 (Prd.mono ((l6.trans l7).trans l8) pd5)) (.cons (Rep.monoW w8 rr8) .nil)
  | false =>
   rw[if_neg (by simp)]
   dsimp only at e5
   rw[if_neg (by simp)] at e5
   exact⟨xs.length - (i+1),by omega,rfl,hlt,hp7,ι7,H6,done,rest,L7,np7,h7,Prd.mono (l6.trans l7) pd5,e5,eds⟩
 ·rw[Wda (by omega),Zef] at e5
  split at e5
  ·rename_i ok
   have e6:(([]:List D),Hd5)=(rest,H2):=Xy.inj e5
   obtain⟨rfl,rfl⟩:=Wbe.inj e6
   refine .inl ⟨itr.stop i H5 ι5 _ l5 h5 ok (by omega),?_⟩
   have w5:Lw K H5 ι5 H5 (ι5++[p]):=⟨fun _ _ z=>z,fun _ _ z=>z,⟨[p],rfl⟩,fun _ _ _ z=>z⟩
   have L:=l0.trans l5
   simp at eds
   subst eds
   refine q _ H5 (ι5++[p]) ⟨L.toLw.trans w5,fun a o ha na=>?_⟩ (h5.add np5 ⟨ys,hpl,Prd.monoW w5 pd5⟩) (Za0.mpr ⟨p,rfl,by rw[<- h5.len]; simp⟩)
   obtain⟨q1,q2⟩:=L.frame a o ha na
   refine⟨q1,?_⟩
   have:a≠p:=fun z=>by
    subst z
    have:=(l0.frame a o ha na).1
    rw[hp] at this; cases this
   simp[q2,this]
  ·cases e5
theorem Zzl {elt iter:Vv} {px py pt pos:Pos} {kt:Nat} {ifs:List Vv} {it:ItF} {tt:TF} {te:EF} (hc:X.calm=true) (B:BlkOk2 X scope x y0 cn ci) (hi:PIf X (.Tuple [.Name x px,.Name y0 py] kt pt) iter it)
  (ht:∀ cl C s H fp pn,Yc2 (blk X scope (x::y0::cn) cl C s H fp pn) ifs tt) (he:∀ cl C s H fp pn,PEf (blk X scope (x::y0::cn) cl C s H fp pn) elt te)
  (hs:∀ x,Vx iter X.env x=pure x:=by rintro _; rfl):PEf X (.ListComp elt [⟨.Tuple [.Name x px,.Name y0 py] kt pt,iter,ifs,0⟩] scope pos) (Ya6 it ci tt te) :=
 PEi (Ycy (tt:=rdT X.K tt) (te:=rdE X.K te) hc B hi ht he hs) fun _ _ _ h=>Yb2 h
nonrec def Zpt (f:AF):ItF:=fun σ H=>(f σ H).bind fun p=>match p.1 with
 | [.ref n]=>match p.2[n]? with
  | some (.lst xs)=>some ((Zcs 0 xs,[(n,.lst xs)]),p.2)
  | _=>none
 | _=>none
theorem Zsz {K:Xb} {H0:Hp} {ι0:List Ve} {a:Ve} {n:Nat} {c:Int} {xs:List D} (ha:ι0[n]? = some a):ItRep K (IteL c a) (Zcs c xs) [(n,.lst xs)] H0 ι0:=by
 have now:∀ {H2:Hp} {ι2:List Ve} {Hd2:HD},Le K H0 ι0 H2 ι2->HRep K H2 ι2 Hd2->Zb7 [(n,DO.lst xs)] Hd2->∃ ws,H2 a=some (.lst ws)/\Vj (Rep K H2 ι2) xs ws:=fun {H2 ι2 Hd2} l2 h2 ok =>
  h2.obj n a _ (l2.get ha) (ok (n,.lst xs) (by simp))
 refine⟨fun i H2 ι2 Hd2 l2 h2 ok hi=>?_,fun i H2 ι2 Hd2 d v H3 l2 h2 ok hd y=>?_,fun i H2 ι2 Hd2 l2 h2 ok hi=>?_⟩
 ·obtain⟨ws,h3,P3⟩:=now l2 h2 ok
  exact⟨ws,ws[i]'(by rw[<- Prd.len P3,<- Ze5 xs c]; exact hi),h3,by simp⟩
 ·obtain⟨ws,h3,P3⟩:=now l2 h2 ok
  obtain⟨p,x,hp,rfl,rfl,y⟩:=y
  obtain⟨x',hx',rfl⟩:=Ziq hd
  obtain⟨u,hu,ru⟩:=Prd.get P3 hx'
  have:=y ws h3
  rw[hu] at this
  cases this
  exact⟨ι2,Le.fresh hp _,h2.tup hp _,Zbc.mpr ⟨p,_,rfl,SqT.of Zaq,.cons (by simp) (.cons (ru.mono (Le.fresh hp _)) .nil)⟩⟩
 ·obtain⟨ws,h3,P3⟩:=now l2 h2 ok
  exact⟨ws,h3,by rw[<- Prd.len P3,<- Ze5 xs c]; exact hi⟩
theorem Zsq {es:List Vv} {k:Nat} {tp p pos:Pos} {a:Vv} {f:AF} (hg:Gl X "enumerate") (hm:X.mg "enumerate" = none) (ha:PAf X [a] f) (hs:Vg [a] X.env=[(false,eval a X.env)]:=by rfl):PIf X (.Tuple es k tp) (.Call (.Name "enumerate" p) [a] [] pos) (Zpt f):=by
 rintro pins s σ H R I ⟨ι,σd,Hd,xs,own,Hd',sr,hr,e,q⟩
 obtain⟨⟨ds,H1⟩,e1,e⟩:=Zo e
 dsimp only at e
 split at e
 ·rename_i n
  split at e
  ·rename_i ys eo
   cases e
   refine Call_ (Zec I hg hm Udf (Ui (thn (ha pos pins s σ H (fun vs H'=>∃ a ws,vs=[.ref a]/\H' a=some (.lst ws)/\∀ (J:It) (H2:Hp),H2=H'->J=IteL 0 a->R J H2) I ⟨ι,σd,Hd,_,_,sr,hr,e1,fun vs H' ι' l h P=>?_⟩) fun us s1 ⟨vs,H2,I2,r2,q2⟩=>?_) hs rfl))
   ·obtain⟨v,rfl,r⟩:=Zl0 P
    obtain⟨ad,rfl,had⟩:=Za0.mp r
    obtain⟨ws,hS,P2⟩:=h.obj n ad _ had eo
    refine⟨ad,ws,rfl,hS,fun J H2 e2 e3=>?_⟩
    subst e2 e3
    exact q _ _ ι' l h (Zsz had)
   ·obtain⟨ad,ws,rfl,hS,q2⟩:=q2
    obtain⟨u,rfl,ru⟩:=Zhp r2
    cases ru
    obtain⟨its,rv,p,hz⟩:=I2.list (SqL.of hS)
    refine Zqz p.isList fun h' he hj z' kk=>?_
    have I3:Inv X pins σ H2 { s1 with heap:=h' }:=I2.kept (t':=s1.toks) kk
    refine Uar (s:={ s1 with heap:=h' }) he ?_
    have ne:s1.heap.objs.size+1≠s1.heap.objs.size:=Weg _
    refine⟨s1.heap.objs.size+1,[s1.heap.objs.size+1,s1.heap.objs.size],_,IteL 0 ad,H2,rfl,I3,Zq2 ad _ _ 0 ne,⟨.none,by simpa using he,hj⟩,fun b hb=>?_,q2 _ _ rfl rfl⟩
    have:s1.heap.objs.size<=b:=by
     rcases Xh.mp hb with rfl | hb
     ·exact Wdp _
     ·have:b=s1.heap.objs.size:=by simpa using hb
      rw[this]; exact Xd _
    exact I2.fpOk (b:=b) (H':=H2) this (I2.hok.fresh this)
  ·cases e
 ·cases e
end
nonrec def Zkx (kvs:List (Int×D)) (k:Int) (v:D):List (Int×D):=if kvs.any (fun p=>p.1=k)=true then kvs.map (fun p=>if p.1=k then (p.1,v) else p) else kvs++[(k,v)]
nonrec def Zhs (kvs:List (Int×D)) (k:Int):Option D:=(kvs.find? fun p=>p.1=k).map (·.2)
nonrec def Yau (x:D) (H:HD):Option (List (Int×D)):=match x with
 | .ref n=>match H[n]? with
  | some (.dci kvs)=>some kvs
  | _=>none
 | _=>none
nonrec def Zsb:F2:=fun x y H=>(Yau x H).bind fun kvs=>match y with
 | .int k=>(Zhs kvs k).map fun v=>(v,H)
 | _=>none
nonrec def iinD:F2:=fun x y H=>(Yau y H).bind fun kvs=>match x with
 | .int k=>some (.bl (Zhs kvs k).isSome,H)
 | _=>none
theorem Zm9 {x:D} {Hd:HD} {kvs:List (Int×D)} (e:Yau x Hd=some kvs):∃ n,x=.ref n/\Hd[n]? = some (.dci kvs):=by
 cases x<;>simp only[Yau] at e<;>try cases e
 rename_i n
 split at e
 ·rename_i h; cases e; exact⟨n,rfl,h⟩
 ·cases e
section
variable {K:Xb} {H:Hp} {ι:List Ve}
theorem Zxa {kvs:List (Int×D)} {xs:List (Int×Vb)} (h:Vj (Zww K H ι) kvs xs) (k:Int):kvs.any (fun p=>p.1=k)=xs.any (fun p=>p.1=k):=by
 induction h with
 | nil=>rfl
 | cons a b ih=>rw[Wcx,Wcx,ih,a.1]
theorem Zwi {kvs:List (Int×D)} {xs:List (Int×Vb)} {k:Int} {d:D} {v:V} {u:Vb} (h:Vj (Zww K H ι) kvs xs) (r:Zcg v u) (q:Rep K H ι d v):Vj (Zww K H ι) (kvs.map (fun p=>if p.1=k then (p.1,d) else p)) (xs.map (fun p=>if p.1=k then (p.1,u) else p)):=by
 induction h with
 | nil=>exact .nil
 | cons a b ih =>
  refine .cons ?_ ih
  dsimp only
  rw[a.1]
  split
  ·exact⟨rfl,v,r,q⟩
  ·exact a
theorem Zvs {kvs:List (Int×D)} {xs:List (Int×Vb)} {k:Int} {d:D} {v:V} {u:Vb} (h:Vj (Zww K H ι) kvs xs) (r:Zcg v u) (q:Rep K H ι d v):Vj (Zww K H ι) (Zkx kvs k d) (Uel xs k u):=by
 unfold Zkx Uel
 rw[Zxa h k]
 split
 ·exact Zwi h r q
 ·exact Prd.append h (.cons ⟨rfl,v,r,q⟩ .nil)
theorem Zlu {kvs:List (Int×D)} {xs:List (Int×Vb)} (h:Vj (Zww K H ι) kvs xs) (k:Int):(Zhs kvs k=none/\valueAt xs k=none)\/∃ d v u,Zhs kvs k=some d/\valueAt xs k=some u/\Zcg v u/\Rep K H ι d v:=by
 unfold Zhs valueAt
 induction h with
 | nil=>exact .inl ⟨rfl,rfl⟩
 | cons a b ih =>
  rename_i p x ps xs'
  by_cases e:p.1=k
  ·have e2:x.1=k:=by rw[<- a.1]; exact e
   obtain⟨_,v,r,q⟩:=a
   exact .inr ⟨p.2,v,x.2,by rw[Wdc (by simpa using e)]; rfl,by rw[Wdc (by simpa using e2)]; rfl,r,q⟩
  ·have e2:¬ x.1=k:=by rw[<- a.1]; exact e
   rw[Wce (by simpa using e),Wce (by simpa using e2)]
   exact ih
end
theorem Zvx {p p2:Vh} {w w2:Vu} {es:List Uak} {xs:List (Int×Vb)} (e:Pairs (Zvh p w) es xs):Pairs (Zvh p2 w2) es xs:=by
 induction e with
 | nil=>exact .nil
 | cons a b c ih=>exact .cons a b ih
theorem Zre {h:Vz} {a:Ve} {xs:List (Int×Vb)} {p:Vh} {w:Vu} (d:h.DictOf (Zvh p w) a xs):Ze0 a xs h:=fun p2 w2=>by
 obtain⟨o,es,ep,e1,e2,e3,e4,e5,e6⟩:=d
 refine⟨o,es,ep,e1,e2,e3,e4,?_,e6⟩
 exact Zvx e5
section
variable {X:Cx}
theorem Zve {pins:List (Ve×Obj)} {σ:L2.St} {H:Hp} {s:Vd} {ι:List Ve} (I:Inv X pins σ H s) {a:Ve} {kvs:List (Int×D)} (h:Zqi X.K H ι a (.dci kvs)):(a==Uad)=false/\∃ xs,Vj (Zww X.K H ι) kvs xs/\s.heap.DictOf (Zvh X.prog X.w) a xs:=by
 obtain⟨h1,h2,xs,h3,P⟩:=h
 exact⟨h1,xs,P,(I.hok a _ h3).1 X.prog X.w⟩
theorem Ybn:IxF X Zsb:=by
 rintro va sl pins s σ H x y v u Q I rx ry ⟨ι,dx,dy,Hd,d,Hd',hr,r1,r2,e,q⟩ hs
 obtain⟨kvs,e1,e⟩:=Zo e
 split at e
 ·rename_i k _
  obtain⟨vd,e3,e⟩:=Zm e
  obtain⟨rfl,rfl⟩:=Wbe.inj e
  obtain⟨n,rfl,hn⟩:=Zm9 e1
  obtain⟨a,rfl,ha⟩:=Za0.mp r1
  simp at r2
  subst r2
  obtain⟨tok,rfl⟩:=ry
  cases rx
  obtain⟨h1,xs,P,dd⟩:=Zve I (hr.obj n a _ ha hn)
  rcases Zlu P _ with ⟨z,_⟩ | ⟨d',v',u',z1,z2,z3,z4⟩
  ·rw[z] at e3; cases e3
  ·rw[z1] at e3; cases e3
   refine tail_any (ops:=[.ref a,.int k tok]) dd.typeIs PySem.F.slot_dict_getitem.lookup (wpAny_getItem_of (knd:=Zvh X.prog X.w) (k:=k) (Zji (k:=k) (t:=tok)) dd.mapOf z2 ?_) hs
   exact⟨v',H,I.tok _,z3,q _ H ι Le.refl hr z4⟩
 ·cases e
end
section
variable {X:Cx}
theorem iinf:OpF X (Vr .In) iinD:=by
 rintro pins s σ H x y v u Q I rx ry ⟨ι,dx,dy,Hd,d,Hd',hr,r1,r2,e,q⟩
 obtain⟨kvs,e1,e⟩:=Zo e
 split at e
 ·rename_i k _
  obtain⟨rfl,rfl⟩:=Wbe.inj (Xy.inj e)
  obtain⟨n,rfl,hn⟩:=Zm9 e1
  obtain⟨a,rfl,ha⟩:=Za0.mp r2
  simp at r1
  subst r1
  obtain⟨tok,rfl⟩:=rx
  cases ry
  obtain⟨h1,xs,P,dd⟩:=Zve I (hr.obj n a _ ha hn)
  refine wpAny_in_of (knd:=Zvh X.prog X.w) (k:=k) (Zji (k:=k) (t:=tok)) h1 dd.mapOf ?_
  have e3:(valueAt xs k).isSome=(Zhs kvs k).isSome:=by
   rcases Zlu P k with ⟨z1,z2⟩ | ⟨_,_,_,z1,z2,_⟩<;>rw[z1,z2]<;>rfl
  rw[e3]
  exact⟨.bl _,H,I.tok _,rfl,q _ H ι Le.refl hr (by simp)⟩
 ·cases e
end
section
variable {X:Cx}
nonrec def Zg5 (i j:Int):Nat:=(i - j).toNat
def Zkd (i j c:Int):Prop := -(2 ^ 60)<=i/\i<2 ^ 60 /\ -(2 ^ 60)<=j/\j<2 ^ 60/\c = -1
instance (i j c:Int):Decidable (Zkd i j c):=by unfold Zkd; exact inferInstance
nonrec def iRB (f:AF):ItF:=fun σ H=>(f σ H).bind fun p=>match p.1 with
 | [.int i,.int j,.int c]=>if Zkd i j c then some ((Zf9 i c (Zg5 i j),[]),p.2) else none
 | _=>none
theorem Zpu {i j c:Int} (h:Zkd i j c):Uz i j c=(Zg5 i j:Nat):=by
 obtain⟨_,_,_,_,rfl⟩:=h
 unfold Uz Zg5
 rw[if_neg (by decide)]
 split
 ·rw[show -(-1:Int)=1 from rfl,Int.ediv_one]; omega
 ·omega
theorem Zsg {i j c:Int} (h:Zkd i j c):Tcf i j c=true:=by
 have e:=Zpu h
 obtain⟨h1,h2,h3,h4,rfl⟩:=h
 have hb:(Zg5 i j:Int)<=2 ^ 61:=by unfold Zg5; omega
 unfold Tcf
 rw[e]
 have hp:¬ ((-1:Int) > 0):=by decide
 simp only[Builtin.Range.rangeFitsLong,Wam,Weo,decide_eq_true_eq,beq_iff_eq,hp,if_false]
 unfold Zg5
 omega
theorem Zqm {tg:Vv} {a b c:Vv} {f:AF} {p pos:Pos} (hg:Gl X "range") (hm:X.mg "range" = none) (ha:PAf X [a,b,c] f) (hs:Vg [a,b,c] X.env=(false,eval a X.env)::Vg [b,c] X.env:=by rfl) (hpl:(Ual pos (Vg [b,c] X.env)).any (·.1)=false:=by rfl) :
  PIf X tg (.Call (.Name "range" p) [a,b,c] [] pos) (iRB f):=by
 rintro pins s σ H R I ⟨ι,σd,Hd,xs,own,Hd',sr,hr,e,q⟩
 obtain⟨⟨ds,H1⟩,e1,e⟩:=Zo e
 dsimp only at e
 split at e
 ·rename_i i j k
  split at e
  ·rename_i hk
   cases e
   refine Call_ (Zec I hg hm boot_range (Ui (thn (ha pos pins s σ H (fun vs H'=>vs=[.int i,.int j,.int k]/\R (It3 i k (Zg5 i j)) H') I ⟨ι,σd,Hd,_,_,sr,hr,e1,fun ws H' ι' l h P=>?_⟩) fun us s1 ⟨vs,H2,I2,r2,q2⟩=>?_) hs hpl))
   ·cases P with
    | cons r1 P =>
     obtain⟨v,v',rfl,r,r'⟩:=Ybh P
     simp at r1 r r'
     subst r1 r r'
     refine⟨rfl,q _ H' ι' l h ⟨fun i H2 ι2 Hd2 l2 h2 _ hi=>(show i<_ by simpa [Zf9] using hi),fun i' H2 ι2 Hd2 d x H3 l2 h2 _ hd y=>?_,fun i H2 ι2 Hd2 l2 h2 _ hi=>(show _<=i by simpa [Zf9] using hi)⟩⟩
     obtain⟨rfl,rfl⟩:=y
     unfold Zf9 at hd
     rw[Xp] at hd
     obtain⟨k',h1',rfl⟩:=Zm hd
     rw[Xc] at h1'
     obtain⟨hl',h1'⟩:=h1'
     simp at h1'
     subst h1'
     exact⟨ι2,Le.refl,h2,by simp⟩
   ·obtain⟨rfl,q2⟩:=q2
    cases r2 with
    | cons r1 r2 =>
     obtain⟨u1,u2,rfl,ru1,ru2⟩:=Zwh r2
     obtain⟨t1,rfl⟩:=r1
     obtain⟨t2,rfl⟩:=ru1
     obtain⟨t3,rfl⟩:=ru2
     have hc:=hk
     obtain⟨b1,b2,b3,b4,b5⟩:=hk
     refine call_range_3 (by omega) ?_ (.inl (Tbs (by omega)))
     refine wpAny_pyIter_range (Tcv ..) (Zsg hc) ?_
     have I1:Inv X pins σ H2 { s1 with heap:=s1.heap.push { cls:=.type "range",data:=.fields #[.int i t1,.int j t2,.int k t3] } }:=I2.kept (t':=s1.toks) fun b o e=>Xa _ e
     refine⟨_,[_],_,It3 i k (Zg5 i j),H2,rfl,I1.kept (t':=s1.toks) fun b o e=>Xa _ e,Zot _ i k _,?_,fun b hb=>?_,q2⟩
     ·have z1:i+((0:Nat):Int)*k=i:=by simp
      have z2:((Zg5 i j:Nat):Int) - ((0:Nat):Int)=Uz i j k:=by rw[Zpu hc]; simp
      show Udj _ _ (i+((0:Nat):Int)*k) (((Zg5 i j:Nat):Int) - ((0:Nat):Int)) k
      rw[z1,z2]
      exact Xe _ rfl
     ·have e:b=(s1.heap.push { cls:=.type "range",data:=.fields #[.int i t1,.int j t2,.int k t3] }).objs.size:=by simpa using hb
      subst e
      exact I1.fpOk (Xd _) (I1.hok.fresh (Xd _))
  ·cases e
 ·cases e
end
theorem Zwg (kvs:List (Int×D)) (k:Int) (v:D):(Zkx kvs k v).length<=kvs.length+1:=by unfold Zkx; split<;>simp
nonrec def Zq0:Zym:=fun o i v H=>match o,i with
 | .ref n,.int k=>match H[n]? with
  | some (.dci kvs)=>if kvs.length<sizeLine then some (H.set n (.dci (Zkx kvs k v))) else none
  | _=>none
 | _,_=>none
section
variable {X:Cx}
theorem Ycc:Zy3 X Zq0:=by
 rintro pins s σ H o i v ov iv u Q I ro ri rv ⟨ι,od,id,vd,Hd,Hd',hr,r1,r2,r3,e,q⟩
 have hx:∃ n k kvs,od=.ref n/\id=.int k/\Hd[n]? = some (.dci kvs)/\kvs.length<sizeLine/\Hd'=Hd.set n (.dci (Zkx kvs k vd)):=by
  unfold Zq0 at e
  split at e
  ·rename_i n k
   split at e
   ·rename_i kvs hn
    split at e
    ·rename_i hl; cases e; exact⟨n,k,kvs,rfl,rfl,hn,hl,rfl⟩
    ·cases e
   ·cases e
  ·cases e
 obtain⟨n,k,kvs,rfl,rfl,hn,hl,rfl⟩:=hx
 obtain⟨a,rfl,ha⟩:=Za0.mp r1
 have r2:i=.int k:=by simpa using r2
 subst r2
 cases ro
 obtain⟨tk,rfl⟩:=ri
 obtain⟨h1,h2,xs,h3,P⟩:=hr.obj n a _ ha hn
 have dd:Ze0 a xs s.heap:=((show Zc9 X.prog X.w H s.heap a (.ext (Ze0 a xs)) from I.hok a _ h3)).1
 have hz:xs.length<=sizeLine:=by rw[<- Prd.len P]; exact h2
 refine wpAny_setItem_pairs (knd:=Zvh X.prog X.w) (k:=k) (hsz:=hz) (Zji (k:=k) (t:=tk)) (dd X.prog X.w) fun h' dd' hs=>?_
 have L:Le X.K H ι (upd H a (.ext (Ze0 a (Uel xs k u)))) ι:=Le.upd (Xu ha) h3 trivial _
 have dA:Ze0 a (Uel xs k u) h':=Zre dd'
 obtain⟨ob,es,ep,g1,_⟩:=id dd'
 have ok:Zc9 X.prog X.w (upd H a (.ext (Ze0 a (Uel xs k u)))) h' a (.ext (Ze0 a (Uel xs k u))):=⟨dA,⟨ob,g1⟩,fun h1 h2 d k=>Ze0.keep d k⟩
 have hr':HRep X.K (upd H a (.ext (Ze0 a (Uel xs k u)))) ι (Hd.set n (.dci (Zkx kvs k vd))):=by
  refine hr.upd ha h3 trivial ⟨h1,?_,_,Zaq,?_⟩
  ·have:=Zwg kvs k vd; omega
  ·exact Zvs (Prd.imp P fun p x _ z=>⟨z.1,let ⟨v,z1,z2⟩:=z.2; ⟨v,z1,z2.mono L⟩⟩) rv (r3.mono L)
 exact⟨_,I.write (x:=a) (e:=a) (by rw[h3]; exact Tay) (.inl rfl) (fun b q hb z=>(hs.2 b hb).trans z) ⟨ob,g1⟩ ok,q _ ι L hr'⟩
nonrec def eDI:EF:=fun _ H=>some (.ref H.length,H++[.dci []])
theorem Zl6 {pos:Pos}:PEf X (.Dict [] [] pos) eDI:=by
 rintro pins s σ H Q I ⟨ι,σd,Hd,d,Hd',sr,hr,e,q⟩
 cases e
 have hb:Uad<s.heap.objs.size:=Nat.lt_trans (by decide) (show Vl<s.heap.objs.size from(I.mod.glob.keeps I.bk).lt)
 have hp:=I.hok.fresh (Xd s.heap.objs.size)
 have dn:Ze0 s.heap.objs.size [] (s.heap.push { cls:=.type "dict",data:=.dict #[] }):=fun p w=>Heap.DictOf.new (knd:=Zvh p w) s.heap
 have ok:Zc9 X.prog X.w (upd H s.heap.objs.size (.ext (Ze0 s.heap.objs.size []))) (s.heap.push { cls:=.type "dict",data:=.dict #[] }) s.heap.objs.size (.ext (Ze0 s.heap.objs.size [])):=⟨dn,⟨_,Xe _ rfl⟩,fun h1 h2 d k=>Ze0.keep d k⟩
 refine wpAny_Dict_empty ⟨.ref s.heap.objs.size,_,I.laid (a:=s.heap.objs.size) (o:=.ext (Ze0 s.heap.objs.size [])) (t':=s.toks) (fun _ _ q=>Xa _ q) (Xd _) ok,rfl,?_⟩
 have hl:ι.length=Hd.length:=hr.len
 exact q _ _ (ι++[s.heap.objs.size]) (Le.fresh1 hp _) (hr.new hp ⟨beq_eq_false_iff_ne.mpr (Uo (Xi hb)),Wbb _,[],Zaq,.nil⟩) (Za0.mpr ⟨_,rfl,by rw[<- hl]; simp⟩)
end
open PySem.W (KasT kas_rev kas_asc kas_desc kas_tail3 kas_descPart kas_count kas_place kas_bin kas_sort)
section
variable {n:Nat}
variable (h0:0<n)
include h0
end
open PySem.W (KdlSrc)
def Yao (d:Ve) (es:Array Uak) (ep:Nat) (h:Vz):Prop:=(d==Uad)=false/\∃ o,h.get? d=some o/\o.ExactDict/\o.data=.dict es ep
theorem Yao.mv {d:Ve} {es:Array Uak} {ep:Nat} {h h':Vz} (x:Yao d es ep h) (k:∀ o,h.get? d=some o->h'.get? d=some o):Yao d es ep h':=let ⟨a,o,e,r⟩:=x; ⟨a,o,k o e,r⟩
section
variable {prog:Vh} {w:Vu} {A:Vt} {E:Vb->Vd->Prop} {s:Vd}
theorem Zwj (hh:A.handled=none) (I d:Ve) (ne:d≠I) (es:Array Uak) (ep:Nat) :
  Walks prog w A I [I,d] [I] es.size (fun i v=>∃ e,es[i]? = some e/\v=e.key) (fun i h=>h.IsKeyIter I d i es.size ep/\Yao d es ep h) where
 sub:=fun b hb=>by simp at hb; simp[hb]
 frame:=fun _ _ _ st hk=>⟨st.1.at fun o e=>hk I (by simp) o e,st.2.mv fun o e=>hk d (by simp) o e⟩
 item:=fun i s _ _ hi st hQ=>by
  obtain⟨_,ob,g1,g2,g3⟩:=st.2
  refine Zsk st.1 g1 g3 hi fun h' hit' hs'=>?_
  exact hQ _ h' s.toks ⟨es[i],by simp[hi],rfl⟩ ⟨hit',st.2.mv fun o e=>hs'.extBut d o ne e⟩ fun b o hb e=>hs'.extBut b o (fun h=>hb (by simp[h])) e
 done:=fun s Q E st hQ=>by
  obtain⟨_,ob,g1,g2,g3⟩:=st.2
  exact Zox hh st.1 g1 g3 (Xd _) fun h' he'=>hQ h' s.toks fun b o hb e=>he' b o (fun h=>hb (by simp[h])) e
 self:=fun _ _ _ _ st r=>Ucz st.1 r
theorem Ybe {d:Ve} {es:Array Uak} {ep:Nat}:KdlSrc prog w "dict" d d es.size (fun i v=>∃ e,es[i]? = some e/\v=e.key) (Yao d es ep) where
 type:=fun _ ⟨_,o,e,x,_⟩=>⟨o,e,x.1⟩
 there:=fun _ ⟨_,o,e,_⟩=>⟨Xf e,Xf e⟩
 keep:=fun _ _ x k=>x.mv fun o e=>k d (.inl rfl) o e
 notList:=by decide
 notTuple:=by decide
 hint:=fun _ _ _ _ ⟨_,o,e,x,_⟩ r=>PySem.W.kdl_hint_dict ⟨o,e,x.1⟩ r
 iter:=fun _ s hh x=>by
  obtain⟨h0,ob,g1,g2,g3⟩:=id x
  exact⟨_,_,(fun _ _ hq=>Zp3 h0 g1 g2 g3 hq),Zwj hh _ d (Xi (Xf g1)) es ep,⟨⟨_,Xe _ rfl,rfl,rfl⟩,x.mv fun o e=>Xa _ e⟩⟩
theorem Zns {d:Ve} {es:Array Uak} {ep:Nat} {R:List Vb->Vd->Prop} (hh:A.handled=none) (x:Yao d es ep s.heap) (hz:es.size<=sizeLine)
  (h:∀ h' tk,(∀ b o,s.heap.get? b=some o->h'.get? b=some o)->s.heap.objs.size<=h'.objs.size->R (es.toList.map (·.key)) { s with heap:=h',toks:=tk }):Vf (Vm prog w) A (collect (.ref d)) R E s:=by
 have hN:(s.heap.push (Uav "list" #[] 0)).get? s.heap.objs.size=some (Uav "list" #[] 0):=Xe _ rfl
 have dl:d<s.heap.objs.size:=let ⟨_,_,e,_⟩:=x; Xf e
 unfold collect
 refine Va (wpAny_runValue (Ube Udb (show Vf _ _ (do again (.builtin "list.__iadd__" ⟨[<- Uen [],.ref d],[]⟩)) _ _ s from Va (Uca (Vc ⟨Tbk _ (by decide +kernel),Ube entry_list_iadd' ?_⟩)))))
 show Vf _ _ (Us (.ref s.heap.objs.size) (.ref d) (.ref s.heap.objs.size)) _ _ { s with heap:=s.heap.push (Uav "list" #[] 0) }
 rw[Around.under_plainId (show plainId "list.__iadd__" = true by decide +kernel)]
 have E1:Vf (Vm prog w) A.in1 (Us (.ref s.heap.objs.size) (.ref d) (.ref s.heap.objs.size)) _ _ { s with heap:=s.heap.push (Uav "list" #[] 0) }:=PySem.W.kdl_extend (s:={ s with heap:=s.heap.push (Uav "list" #[] 0) }) (R:=fun r s'=>r=.ok (.ret (.ref s.heap.objs.size))/\Vf (Vm prog w) A (load s.heap.objs.size) (fun o s2=>∃ xs ep,o.data=.seq xs ep/\R xs.toList s2) E s') (Ybe (ep:=ep)) hh (x.mv fun o e=>Xa _ e) s.heap.objs.size (Uo (Xi dl)) (Uo (Xi dl)) (.ref s.heap.objs.size) 0 hN (fun h' tk acc c k1 k2 hi=>by
  have ea:acc.toList=es.toList.map (·.key):=by
   apply Wfk
   intro i
   rw[Xp,Wep,Wep]
   by_cases hl:i<es.size
   ·have la:i<acc.size:=by rw[hi.1]; exact hl
    obtain⟨e,e1,e2⟩:=hi.2 i acc[i] (Wco la)
    rw[Wco la,e1,e2]
    rfl
   ·rw[Wdb (by rw[hi.1]; omega),Wdb (by omega)]
    rfl
  refine⟨rfl,wpAny_load k2 ⟨acc,c,rfl,?_⟩⟩
  rw[ea]
  exact h h' tk (fun b o e=>k1 b o (Xi (Xf e)) (Xa _ e)) (Wdu (Xf k2))) hz
 have fin:∀ s',Vf (Vm prog w) A (load s.heap.objs.size) (fun o s2=>∃ xs ep,o.data=.seq xs ep/\R xs.toList s2) E s'->Vf (Vm prog w) A (do match (<- load s.heap.objs.size).data with | .seq xs _=>pure xs.toList | _=>unsupported "internal:collect") R E s':=fun s' z=>by
  refine Va (Uan z (fun o s2 ⟨xs,ep,e1,e2⟩=>?_) fun _ _ x=>x)
  rw[e1]
  exact Vc e2
 refine Uan E1 (fun f s' z=>?_) (fun e s' z=>?_)
 ·cases f with
  | done f =>
   obtain⟨z1,z2⟩:=z
   cases z1
   exact fin s' z2
  | again c =>
   refine⟨z.1,Uax z.2 fun r s2 z=>?_⟩
   obtain⟨rfl,z2⟩:=z
   exact fin s2 z2
 ·cases z.1
end
theorem Zpe {X:Cx} {sts:List Uae}:Znr X sts Yad:=by
 rintro pins s σ H E I ⟨ι,σd,Hd,fl,σd',Hd',_,_,e,_⟩
 cases e
end DL
namespace DL
open PySem PySem.Spec PyProof.Rows L2 PySem.W
def Fv (K:Frag) (mg:Str->Option Vb) (x:String):Prop:=∃ f,mg (Ua x)=some (.ref f)/\nsIn K Vl (Ua x)=some (some (.ref f))
theorem fv_mk {K:Frag} {hp:Vz} {mg:Str->Option Vb} {x:String} {f:Ve} (X:K.In hp) (G:hp.Ns Vl mg) (a:nsIn K Vl (Ua x)=some (some (.ref f))):Fv K mg x:=⟨f,mg_of X G a,a⟩
nonrec def Zlr (i n:Nat) (x:String) (F:FF) (f:AF):EF:=fun σ H=>match σ[i]? with
 | some (some (.ty y))=>if y=x then Zal n F f σ H else none
 | _=>none
section
variable {X:Cx} {k n i:Nat} {ps:List Str} {x:String} {v:Str} {p pos:Pos} {F:FF} {fa:AF} {e:Vv} {es:List Vv}
theorem Ydg (h:Fv X.K X.mg x) (ht:Zxz x=false:=by decide) (hg:Gl X (Ua x):=by rfl) (hd:(Ua x==("__debug__" : Str))=false:=by decide):PEf X (.Name (Ua x) pos) (eC (.ty x)):=by
 obtain⟨f,h1,h2⟩:=h
 exact Zny (Zvf (v:=.ref f) hg h1 rfl hd) fun _ _=>(Zx8 ht).mpr ⟨f,rfl,h2⟩
theorem Zr0 (G:Fn X.prog X.w X.K X.mg X.base k (Ua x) ps F) (hf:Fv X.K X.mg x) (hr:Room k X.A) (hv:PE X (.Name v p) (Ya2 i)) (ha:PAf X (e::es) fa) (ht:Zxz x=false:=by decide)
  (he:Vg (e::es) X.env=(false,eval e X.env)::Vg es X.env:=by exact Zb3 rfl) (hpl:(Ual pos (Vg es X.env)).any (·.1)=false:=by exact Zc2 rfl) (hn:ps.length=n:=by rfl) :
  PEf X (.Call (.Name v p) (e::es) [] pos) (Zlr i n x F fa):=by
 subst hn
 intro pins s σ H Q I z
 obtain⟨ι,σd,Hd,d,Hd',ss,hr0,eq,q⟩:=z
 unfold Zlr at eq
 split at eq
 ·rename_i y hy
  split at eq
  ·rename_i ey
   subst ey
   obtain⟨v0,h1,r⟩:=ss.var i _ hy
   obtain⟨a,rfl,hns⟩:=(Zx8 ht).mp r
   obtain⟨f',hm',hns'⟩:=hf
   rw[hns] at hns'
   cases hns'
   obtain⟨f,fd,G1,hb,hk,hm,_⟩:=G.ex
   rw[hm'] at hm
   cases hm
   refine Uap (thn (hv pins s σ H (fun v' H'=>v'=.ref a/\H'=H) I ⟨_,h1,rfl,rfl⟩) fun u s1 z=>?_)
   obtain⟨v',H',I1,rv,rfl,rfl⟩:=z
   have rv:u=.ref a:=rv
   subst rv
   have t:Ya9 (spF X.K ps.length F) [] E0 (rdA X.K fa) σ H' Q:=by
    obtain⟨⟨x,H1⟩,e1,e⟩:=Zo eq
    refine⟨ι,σd,Hd,x,H1,ss,hr0,e1,fun vs H' ι' l h r=>?_⟩
    dsimp only at e
    split at e
    ·rename_i hl
     exact⟨ι',x,H1,d,Hd',hl,h,by simpa using r,e,fun v2 H2 ι2 l2 h2 r2=>q v2 H2 ι2 (l.trans l2) h2 r2⟩
    ·cases e
   refine Wfb (h₀:=X.base) I1.ok.mod.kin hk (thn (ha pos pins s1 σ H' _ I1 t) fun us s2 ⟨vs,H1,I2,r,q⟩=>⟨I2.kIn,?_⟩) he hpl
   exact Zxe G1 hr hb .nil Yb7 I2 r q
  ·cases eq
 ·cases eq
end
end DL
namespace DL
open PySem PySem.Spec PyProof.Rows L2
section
variable {prog:Vh} {w:Vu} {A:Vt} {E:Vb->Vd->Prop} {s:Vd}
theorem Zsl {d L:Ve} {m:Str->Option Vb} {es:Array Uak} {ep:Nat} {ns:List Int} {Q:Vb->Vd->Prop} (hn:s.heap.Ns L m) (hh:A.handled=none) (x:Yao d es ep s.heap) (hI:Ubd (es.toList.map (·.key)) ns) (h64:es.size<64)
  (h:∀ h' tk D out c,h'.Ns L m->(∀ b o,b≠L->s.heap.get? b=some o->h'.get? b=some o)->s.heap.objs.size<=D->h'.get? D=some (Uav "list" out c)->KskOut false (ns.map Zgy) (es.toList.map (·.key)) out.toList->Q (.ref D) { s with heap:=h',toks:=tk }) :
  Vf (Vm prog w) A (call (.builtin "sorted") [.ref d] [(Ua "key",.builtin "abs")]) Q E s:=by
 have sz:sizeLine=16777216:=Ubf
 have lt:=hn.lt
 refine Uci kind_sorted plain_sorted entry_sorted (ksk_s1 _ _) ?_
 unfold Builtin.«sorted»
 refine Va (m:=checkCount "sorted" 1 1 _) (Vc (Va (Zns (show A.in1.handled=none from hh) x (by omega) fun h1 tk k1 le=>Va (Uca ?_ (by simp; omega)))))
 generalize ev:es.toList.map (·.key)=vs at *
 have lv:vs.length=es.size:=by rw[<- ev]; simp
 let h2:Vz:=h1.push (Uav "list" vs.toArray 0)
 have at2:h2.get? h1.objs.size=some (Uav "list" vs.toArray 0):=Xe _ rfl
 have kp:∀ b o,s.heap.get? b=some o->h2.get? b=some o:=fun b o e=>Xa _ (k1 b o e)
 have ltD:∀ b o,s.heap.get? b=some o->b≠h1.objs.size:=fun b o e=>Xi (Xj (Xf e) le)
 have LD:h1.objs.size≠L:=Uo (Xi (Xj lt le))
 have F0:Fr {} L s.heap m:=⟨hn,fun b o e=>absurd ((Zg2 b).symm.trans e) (by simp),Wbb _⟩
 have N0:News {} L s.heap (Zkc s.heap L):=fun p hp=>⟨(Zd5 hp).1,(Zd5 hp).2,Zg2 _⟩
 have ln:ns.length=vs.length:=hI.length.symm
 show Vf _ _ _ _ _ { s with heap:=h2,toks:=tk }
 refine Va (Vw (Udm (s:={ s with heap:=h2,toks:=tk }) slot_list_sort ⟨_,at2,rfl⟩ entry_list_sort ?body (ksk_l1 _ _)))
 case body =>
  show Vf (Vm prog w) A.in1.in1 (Builtin.«list.sort» ⟨[.ref h1.objs.size],[(Ua "key",.builtin "abs")]⟩) _ _ _
  rw[ksk_t4]
  refine ksk_sort (s:={ s with heap:=h2,toks:=tk }) (kz:=ns.map Zgy) (news:=Zkc s.heap L) (F0.kept kp) (N0.grown kp) at2 LD (Zg2 _) (fun p hp=>ltD _ _ (Zd5 hp).1)
   (by rw[Xk]; exact ln) (by omega) (fun i v k hv hk hh tk own F N=>?_) fun h' tk out c F' N' K'=>⟨_,rfl,?_⟩
  ·obtain⟨n,t,rfl,e⟩:=hI.at i v hv
   rw[Xp,e] at hk
   cases hk
   exact Udv fun u tk'=>Tcu F N fun p hp=>hp
  ·refine Vc ⟨_,rfl,h h' tk _ out c F'.ns (fun b o hb e=>?_) le ?_ K'⟩
   ·exact(N' _ (Wak _ (Zme hb e))).1
   ·exact(N' _ (Wcf ..)).1
end
nonrec def Zip:FF:=fun ds H=>match ds with
 | [.ref n]=>match H[n]? with
  | some (.dci kvs)=>if kvs.length<64/\((kvs.map (·.1)).map Zgy).Nodup then some (.ref H.length,H++[.lst ((Zdb (kvs.map (·.1))).map .int)]) else none
  | _=>none
 | _=>none
theorem Zrc {p:Vh} {w:Vu} {es:List Uak} {xs:List (Int×Vb)} (e:Pairs (Zvh p w) es xs):Ubd (es.map (·.key)) (xs.map (·.1)):=by
 induction e with
 | nil=>exact .nil
 | cons a b c ih =>
  obtain⟨t,q⟩:=Zju a
  rw[Xq,Xq,q]
  exact .cons _ t ih
theorem Zrw {K:Xb} {H:Hp} {ι:List Ve} {kvs:List (Int×D)} {xs:List (Int×Vb)} (P:Vj (Zww K H ι) kvs xs):kvs.map (·.1)=xs.map (·.1):=by
 induction P with
 | nil=>rfl
 | cons a b ih=>rw[Xq,Xq,a.1,ih]
theorem Zqh {X:Cx} {a:Vv} {f:AF} {p p2 kp pos:Pos} (hcm:X.calm=true) (hg:Gl X "sorted") (hm:X.mg "sorted" = none) (hg2:Gl X "abs") (hm2:X.mg "abs" = none) (ha:PAf X [a] f) (hs:Vg [a] X.env=[(false,eval a X.env)]:=by rfl) :
  PEf X (.Call (.Name "sorted" p) [a] [⟨some "key",.Name "abs" p2,kp⟩] pos) (eCB Zip f):=by
 rintro pins s σ H Q I ⟨ι,σd,Hd,d,Hd',sr,hr,e,q⟩
 obtain⟨⟨ds,H1⟩,e1,e⟩:=Zo e
 dsimp only at e
 unfold Zip at e
 split at e
 ·rename_i n
  split at e
  ·rename_i kvs eo
   split at e
   ·rename_i hc
    show Vf _ _ (do Uea pos (<- eval (.Name "sorted" p) X.env) [] (Ual pos (Vg [a] X.env)) (Ucw pos (Ubh [⟨some "key",.Name "abs" p2,kp⟩] X.env))) _ _ _
    refine Va (Zec I hg hm Zmh (Udc (by rw[hs]; rfl) rfl ?_))
    have hA:=ha pos pins s σ H (fun vs H'=>∃ ι',Le X.K H ι H' ι'/\HRep X.K H' ι' H1/\Vj (Rep X.K H' ι') [.ref n] vs) I ⟨ι,σd,Hd,_,_,sr,hr,e1,fun vs H' ι' l h P=>⟨ι',l,h,P⟩⟩
    rw[hs] at hA ⊢
    refine Udy rfl (thn hA fun us s1 ⟨vs,H2,I2,r2,ι2,l2,h2,P2⟩=>kws_cons (Zec I2 hg2 hm2 Zsd (kws_nil ?_)))
    obtain⟨v,rfl,r⟩:=Zl0 P2
    obtain⟨u,rfl,ru⟩:=Zhp r2
    obtain⟨ad,rfl,had⟩:=Za0.mp r
    cases ru
    obtain⟨h3,xs,PK,dd⟩:=Zve I2 (h2.obj n ad _ had eo)
    obtain⟨o,es,ep,g1,g2,g3,g4,g5,g6⟩:=dd
    show Vf _ _ (call (.builtin "sorted") [.ref ad] [(Ua "key",.builtin "abs")]) _ _ _
    obtain⟨m,hn,_⟩:=I2.loc
    have hI:=Zrc g5
    rw[<- Zrw PK] at hI
    have les:es.size=kvs.length:=by
     have:=hI.length
     simpa using this
    refine Zsl hn (I2.ok.hd hcm) ⟨h3,o,g1,g2,g3⟩ hI (by omega) fun h' tk Da out c hn' kk hD hat K'=>?_
    have hO:=Zx1 hI hc.2 K'
    have hl:((Zdb (kvs.map (·.1))).map V.int).length<=sizeLine:=by
     rw[Xk,(Zch (kvs.map (·.1))).length_eq,Xk]
     have:sizeLine=16777216:=Ubf
     omega
    refine⟨.ref Da,_,Zlt (o:=.lst ((Zdb (kvs.map (·.1))).map V.int)) I2 kk (fun m' hm'=>by rw[hm'.eq_nsMap,<- hn.eq_nsMap]; exact hn') hD ⟨hl,out.toList,c,Zmk hO,by simpa using hat⟩,rfl,?_⟩
    have hz2:((Zdb (kvs.map (·.1))).map D.int).length<=sizeLine:=by simpa using hl
    exact(Zga h2 (Zmu (Zdb (kvs.map (·.1)))) (show mkL ((Zdb (kvs.map (·.1))).map D.int) H1=some (d,Hd') by unfold mkL; rw[if_pos hz2,e]) (fun v H' ι' l h r=>q v H' ι' (l2.trans l) h r)).2 _ (I2.hok.fresh hD)
   ·cases e
  ·cases e
 ·cases e
end DL
namespace DL
open PySem PySem.Spec PyProof.Rows L2 PySem.W
nonrec def cxCl (P:Vh) (w:Vu) (K:Xb) (mg:Str->Option Vb) (base:Vz) (N:List Str) (qual:Str) (scope:Ubm) (f:Ve) (cd:Vb) (cl:List (Str×Ve)) (A:Vt) (outer:List Env) (s:Vd) (H:Hp):Cx where
 prog:=P
 w:=w
 K:=K
 mg:=mg
 base:=base
 A:=A.deeper (envX qual scope s.heap.objs.size f cd cl)
 N:=N
 s₀:=s
 H₀:=H
 env:=envX qual scope s.heap.objs.size f cd cl
 outer:=outer
 stack:=envX qual scope s.heap.objs.size f cd cl::outer
 ex:=[]
 calm:=true
 fn:=fun _=>false
 pn:=[]
 xe:=fun _ _=>False
structure ClScope (N ps:List Str) (x:Str) (sc:Ubm):Prop where
 kind:sc.kind=.function
 co:sc.isCoroutine=false
 gen:sc.isGenerator=false
 nd:N.Nodup
 pre:N.take (ps.length+1)=ps++[x]
 par:∀ p∈ps,sc.names.lookup p=some .local
 nocell:∀ y∈sc.names,y.2≠.cell
 fx:sc.names.lookup x=some .free
 fo:∀ y∈sc.names,y.2=.free->y.1=x
nonrec def Zhk (N:List Str) (vs:List V) (w:V):L2.St:=(vs++[w]).map some++Xs (N.length - (vs.length+1)) none
theorem Zpi {y:Str}:∀ {ps:List Str} {us:List Vb},y∉ps->(ps.zip us).reverse.lookup y=none
 | [],_,_=>rfl
 | _::_,[],_=>rfl
 | p::ps,u::us,h=>by
  rw[Wcg,Wee,Wdw,Zpi (fun z=>h (by simp[z])),Wai]
  have:(y==p)=false:=by rw[beq_eq_false_iff_ne]; exact fun z=>h (by simp[z])
  rw[this]
  rfl
theorem Zpg {y:Str} {u:Vb}:∀ {ps:List Str} {us:List Vb} {i:Nat},ps.Nodup->ps[i]? = some y->us[i]? = some u->(ps.zip us).reverse.lookup y=some u
 | [],_,_,_,h,_=>by simp at h
 | _::_,[],_,_,_,h=>by simp at h
 | p::ps,v::us,0,nd,h1,h2=>by
  simp at h1 h2
  subst h1 h2
  rw[Wcg,Wee,Wdw,Zpi (Wbk.mp nd).1,Wai]
  simp
 | p::ps,v::us,i+1,nd,h1,h2=>by
  rw[Wcg,Wee,Wdw,Zpg (Wbk.mp nd).2 (by simpa using h1) (by simpa using h2)]
  rfl
section
variable {P:Vh} {w:Vu} {K:Xb} {mg:Str->Option Vb} {base:Vz} {N ps:List Str} {x qual:Str} {scope:Ubm} {f c:Ve} {cd:Vb} {A:Vt} {outer:List Env} {s:Vd} {H:Hp} {us:List Vb} {vs:List V} {wv:V} {oc:Obj} {u:Vb}
theorem Zqg {h₁:Vz} {tk:Nat} (S:ClScope N ps x scope) (hd:A.handled=none) (e0:Env0 P w K mg base A outer s H) (hl:vs.length=ps.length) (r:Zb8 vs us) {uc:HO} (hc:H c=some (.frz oc uc)) (hcd:oc.data=.cell (some u)) (rw':Zcg wv u)
  (hns:h₁.Ns s.heap.objs.size (fun y=>(ps.zip us).reverse.lookup y)) (hk:∀ b o,s.heap.get? b=some o->h₁.get? b=some o) :
  Inv (cxCl P w K mg base N qual scope f cd [(x,c)] A outer s H) [] (Zhk N vs wv) H { s with heap:=h₁,toks:=tk }:=by
 have hN:ps.length+1<=N.length:=by have:=congrArg Wbo S.pre; rw[Way,Xl] at this; simp at this; omega
 have hcl:∀ y z,([(x,c)]:List (Str×Ve)).lookup y=some z->y=x/\z=c:=fun y z h=>by
  rw[Wai] at h
  cases hb:y==x with
  | true=>rw[hb] at h; cases h; exact⟨eq_of_beq hb,rfl⟩
  | false=>rw[hb] at h; simp at h
 have hlx:([(x,c)]:List (Str×Ve)).lookup x=some c:=by rw[Wai]; simp
 have gc:s.heap.get? c=some oc:=(e0.hok c _ hc).1
 have noA:∀ b:Ve,b∉(cxCl P w K mg base N qual scope f cd [(x,c)] A outer s H).ex:=fun b z=>absurd (show b∈([]:List Ve) from z) (by simp)
 refine⟨⟨e0.mod,S.kind,rfl,rfl,Xd _,fun y z d h1 h2=>?_,fun y hy=>?_,fun y d h=>absurd h (by show ¬ (false=true); simp),fun _=>hd,Tcb e0.frames,.inr ⟨rfl,rfl⟩,fun b z=>absurd z (noA b),e0.bs,e0.bsz,fun b _ _=>noA b,fun b z=>absurd z (noA b),e0.funs,e0.frf⟩,
  rfl,e0.bare,Un.kept hk,⟨_,hns,fun i y v h1 h2 h3=>?_⟩,fun y d h=>?_,e0.hok.fresh (Xd _),fun y d h=>?_,fun p hp=>absurd (show p∈([]:List (Ve×Obj)) from hp) (by simp),e0.hok.kept hk,?_⟩
 ·rw[(hcl _ _ h1).1,(hcl _ _ h2).1]
 ·have hy:scope.names.lookup y=some .cell\/scope.names.lookup y=some .free:=hy
  rcases hy with hy | hy
  ·exact absurd rfl (S.nocell _ (Uj hy))
  ·have:=S.fo _ (Uj hy) rfl
   have this:y=x:=this
   subst this
   exact⟨c,hlx⟩
 ·have hi:i<vs.length+1:=by
   unfold Zhk at h2
   by_cases hi:i<vs.length+1
   ·exact hi
   ·rw[Xo (by simpa using hi)] at h2
    rw[Wbp] at h2
    split at h2<;>cases h2
  have h2':(vs++[wv])[i]? = some v:=by
   unfold Zhk at h2
   rw[Xg (by simpa using hi),Xp] at h2
   cases e:(vs++[wv])[i]? with
   | none=>rw[e] at h2; cases h2
   | some a=>rw[e] at h2; cases h2; rfl
  have h1':(ps++[x])[i]? = some y:=by
   rw[<- S.pre,Wbh (by omega)]; exact h1
  by_cases hv:i<vs.length
  ·rw[Xg hv] at h2'
   rw[Xg (by omega)] at h1'
   obtain⟨u',hu,rv⟩:=r.get h2'
   refine⟨u',rv,.inl ⟨S.par y (Xu h1'),?_⟩⟩
   have ndP:ps.Nodup:=by
    have:(ps++[x]).Nodup:=by rw[<- S.pre]; exact S.nd.sublist (Wfh _ _)
    exact(Wat.mp this).1
   exact Zpg ndP h1' hu
  ·have e:i=vs.length:=by omega
   subst e
   rw[Xo (by omega)] at h2'
   rw[Xo (by omega)] at h1'
   simp at h2'
   subst h2'
   rw[hl] at h1'
   simp at h1'
   subst h1'
   exact⟨u,rw',.inr ⟨.inr S.fx,c,hlx,oc,hk _ _ gc,hcd⟩⟩
 ·obtain⟨_,rfl⟩:=hcl _ _ h
  exact⟨_,oc,hk _ _ gc,hcd⟩
 ·obtain⟨_,rfl⟩:=hcl _ _ h
  exact .inr ⟨rfl,oc,_,hc⟩
 ·unfold Zhk
  show _=N.length
  simp only[Xl,Xk,Wel,Wbm]
  omega
def ClOk (P:Vh) (w:Vu) (K:Xb) (mg:Str->Option Vb) (base:Vz) (k:Nat) (n:String) (x:Str) (m:Nat) (F:D->FF):Prop :=
 ∀ (A:Vt) (outer:List Env) (s:Vd) (H:Hp) (us:List Vb) (vs:List V) (Q:VK) (a:Ve) (wv:V),Room k A->Env0 P w K mg base A outer s H->Zri K H n x a wv->Zb8 vs us ->
  (∃ ι d ds Hd d' Hd',ds.length=m/\HRep K H ι Hd/\Rep K H ι d wv/\Vj (Rep K H ι) ds vs/\F d ds Hd=some (d',Hd')/\QE K H ι d' Hd' Q) ->
  Ucn (Vm P w) A (.call (.ref a) ⟨us,[]⟩) (CR CX0 outer P w H s Q E0) s
nonrec def Yar (n N:Nat) (b:SF) (d:D):FF:=fun ds H=>if ds.length=n then (b ((ds++[d]).map some++Xs (N - (n+1)) none) H).bind fun r=>match r.1 with
  | .rt d=>some (d,r.2.2)
  | .nx=>some (.non,r.2.2)
  | _=>none
 else none
theorem fn_cl {k:Nat} {n:String} {st:Uae} {b:SF} (hst:∀ st',Zi8 K n st'->st'=st) (S:ClScope N ps x (Zad st))
  (hbd:∀ (nm qual:Str) (doc pm ct:Vb) (c c':Ve) (us:List Vb),us.length=ps.length->Uby (fnX nm qual (Zck st) (Za7 st) (Zad st) [(x,c)] .none .none doc pm none (.ref c') ct) ⟨us,[]⟩=pure (ps.zip us))
  (hb:∀ (qual:Str) (f:Ve) (cdv:Vb) (c:Ve) (A:Vt) (outer:List Env) (s:Vd) (H:Hp),Room k (A.deeper (envX qual (Zad st) s.heap.objs.size f cdv [(x,c)]))->Znr (cxCl P w K mg base N qual (Zad st) f cdv [(x,c)] A outer s H) (Za7 st) b) :
  ClOk P w K mg base (k+1) n x ps.length (Yar ps.length N.length b):=by
 rintro A outer s H us vs Q a wv hr e0 hca r ⟨ι,d,ds,Hd,d',Hd',hl,hh,rd,rp,e,q⟩
 obtain⟨st',nm,qual,doc,pm,ct,c,c',oc,uc,u,h1,h2,⟨o3,vs3,t3,h3,h3d,h3v⟩,h4,h5,h6⟩:=hca
 obtain rfl:=hst st' h1
 have lv:vs.length=ps.length:=by rw[<- Prd.len rp]; exact hl
 have lu:us.length=ps.length:=by rw[<- r.length]; exact lv
 have lim:s.heap.NoLimit:=e0.mod.nolimit.keeps fun b o e=>(e0.bs b o e).1
 have g2:s.heap.get? a=some (fnMade nm qual (Zck st') (Za7 st') (Zad st') [(x,c)] doc pm c' ct):=(e0.hok a _ h2).1
 have g3:s.heap.get? c'=some o3:=(e0.hok c' _ h3).1
 refine codeAny_call_def (binds:=ps.zip us) hr.depth g2 rfl lim ⟨c',o3,vs3,t3,rfl,g3,h3d,h3v⟩ rfl (.of_eq (hbd nm qual doc pm ct c c' us lu)) S.nocell (fun y hy=>S.par _ (Wcs hy).1) (fun h₀ hns hk=>?_) S.co S.gen S.kind
 have I:=Zqg (qual:=qual) (f:=a) (cd:=.ref c') (tk:=s.toks+(ps.zip us).length) S hr.hd e0 lv r h4 h5 h6 hns hk
 unfold Yar at e
 rw[if_pos hl] at e
 obtain⟨⟨fl,σ1,H1⟩,e1,e⟩:=Zo e
 have hN:ps.length+1<=N.length:=by have:=congrArg Wbo S.pre; rw[Way,Xl] at this; simp at this; omega
 have rp':Vj (Rep K H ι) (ds++[d]) (vs++[wv]):=Prd.append rp (.cons rd .nil)
 have ss:SRep K H ι (Zhk N vs wv) ((ds++[d]).map some++Xs (N.length - (ps.length+1)) none):=by
  refine⟨by simp[Zhk,lv,hl],fun i d0 h0=>?_⟩
  unfold Zhk
  by_cases hi:i<(ds++[d]).length
  ·rw[Xg (by simpa using hi),Xp] at h0
   cases ed:(ds++[d])[i]? with
   | none=>rw[ed] at h0; cases h0
   | some d1 =>
    rw[ed] at h0
    cases h0
    obtain⟨v,hv,rv⟩:=Prd.get rp' ed
    refine⟨v,?_,rv⟩
    rw[Xg (by rw[Xk,<- Prd.len rp']; exact hi),Xp,hv]
    rfl
  ·rw[Xo (by simpa using hi),Wbp] at h0
   split at h0<;>cases h0
 have body:=hb qual a (.ref c') c A outer s H (hr.deeper _) [] _ (Zhk N vs wv) H { nx:=fun _ H'=>Q .non H',rt:=Q } I ⟨ι,_,Hd,fl,σ1,H1,ss,hh,e1,fun σ' H' ι' l h s'=>by
  cases fl with
  | rt d1=>cases e; exact fun v rv=>q v H' ι' l h rv
  | nx=>cases e; exact q .non H' ι' l h (by simp)
  | bk=>cases e
  | ct=>cases e⟩
 refine Uan body (fun fl s' hs=>?_) fun e s' hs=>hs.elim
 have fin:∀ {σ':L2.St} {H':Hp} {v:V} {u:Vb},Inv (cxCl P w K mg base N qual (Zad st') a (.ref c') [(x,c)] A outer s H) [] σ' H' s'->Zcg v u->Q v H'->CE outer P w H s Q u s' :=
  fun {σ' H' v u} J rv q=>⟨v,H',J.os,J.bare,J.base,J.hok,rv,q⟩
 cases fl with
 | ret u =>
  obtain⟨v,σ',H',J,rv,q⟩:=hs
  exact fin J rv q
 | next =>
  obtain⟨σ',H',J,q⟩:=hs
  exact fin (v:=V.non) (u:=Uq) J rfl q
 | brk =>
  obtain⟨_,_,_,q⟩:=hs
  exact Ul q
 | cont =>
  obtain⟨_,_,_,q⟩:=hs
  exact Ul q
end
nonrec def Zml (i m:Nat) (n:String) (x:Str) (F:D->FF) (f:AF):EF:=fun σ H=>match σ[i]? with
 | some (some (.ref j))=>match H[j]? with
  | some (.clo n' x' d)=>if n'=n/\x'=x then (f σ H).bind fun p=>if p.1.length=m then F d p.1 p.2 else none else none
  | _=>none
 | _=>none
section
variable {X:Cx} {k m i:Nat} {n:String} {x v:Str} {p pos:Pos} {F:D->FF} {fa:AF} {e:Vv} {es:List Vv}
theorem Zs9 (G:ClOk X.prog X.w X.K X.mg X.base k n x m F) (hr:Room k X.A) (hv:PE X (.Name v p) (Ya2 i)) (ha:PAf X.nox (e::es) fa)
  (he:Vg (e::es) X.env=(false,eval e X.env)::Vg es X.env:=by exact Zb3 rfl) (hpl:(Ual pos (Vg es X.env)).any (·.1)=false:=by exact Zc2 rfl) :
  PEf X (.Call (.Name v p) (e::es) [] pos) (Zml i m n x F fa):=by
 intro pins s σ H Q I z
 obtain⟨ι,σd,Hd,d,Hd',ss,hr0,eq,q⟩:=z
 unfold Zml at eq
 split at eq
 ·rename_i j hj
  split at eq
  ·rename_i n' x' dd hc
   split at eq
   ·rename_i hn
    obtain⟨rfl,rfl⟩:=hn
    obtain⟨⟨ds,H1⟩,e1,eq⟩:=Zo eq
    dsimp only at eq
    split at eq
    ·rename_i hm
     obtain⟨v0,h1,r⟩:=ss.var i _ hj
     obtain⟨a,rfl,ia⟩:=Za0.mp r
     obtain⟨wv,ca,rd⟩:=hr0.obj j a _ ia hc
     have fnAt:∀ {H':Hp} {s':Vd},Zri X.K H' n' x' a wv->HOk X.prog X.w H' s'.heap->FnAt a s'.heap:=fun {H' s'} ca hok=>by
      obtain⟨st',nm,qual,doc,pm,ct,c,c',oc,uc,u,_,h2,_⟩:=ca
      exact⟨_,_,_,_,(hok a _ h2).1⟩
     refine Uap (thn (hv pins s σ H (fun v' H'=>v'=.ref a/\H'=H) I ⟨_,h1,rfl,rfl⟩) fun u s1 z=>?_)
     obtain⟨v',H',I1,rv,rfl,rfl⟩:=z
     have rv:u=.ref a:=rv
     subst rv
     refine callWith_F (fnAt ca I1.hok) (Uan (ha pos pins s1 σ H' (fun vs H2=>∃ ι',Le X.K H' ι H2 ι'/\HRep X.K H2 ι' H1/\Vj (Rep X.K H2 ι') ds vs) (I1.wish _) ⟨ι,σd,Hd,ds,H1,ss,hr0,e1,fun vs H2 ι' l h P=>⟨ι',l,h,P⟩⟩) (fun us s2 z=>?_) fun _ _ z=>z.elim) he hpl
     obtain⟨vs,H2,I2,r2,ι2,l2,h2,P2⟩:=z
     have I2:Inv X pins σ H2 s2:=I2.unwish
     have ca2:=ca.step l2.toLw
     refine⟨fnAt ca2 I2.hok,wpAny_call (Uax (G X.A X.stack s2 H2 us vs Q a wv hr I2.env0 ca2 r2 ⟨ι2,dd,ds,H1,d,Hd',hm,h2,rd.mono l2,P2,eq,fun v3 H3 ι3 l3 h3 r3=>q v3 H3 ι3 (l2.trans l3) h3 r3⟩) fun r s' hq=>?_)⟩
     cases r with
     | error e=>exact Ul hq
     | ok fl =>
      cases fl with
      | ret u=>exact I2.after hq
      | next=>exact Ul hq
      | brk=>exact Ul hq
      | cont=>exact Ul hq
    ·cases eq
   ·cases eq
  ·cases eq
 ·cases eq
end
end DL
namespace L2
open PySem PySem.Spec PyProof.Rows
nonrec abbrev Cx.nofn (X:Cx):Cx:={ X with fn:=fun _=>false }
theorem Cx.Ok.nofn {X:Cx} (ok:X.Ok):X.nofn.Ok :=
 ⟨ok.mod,ok.kind,ok.glob,ok.blt,ok.above,ok.inj,ok.has,fun _ _ h=>absurd h (by simp),ok.hd,ok.frames,ok.stk,ok.exf,ok.bs,ok.bsz,ok.noex,ok.exfs,ok.funs,ok.frf⟩
section
variable {X:Cx} {pins:List (Ve×Obj)} {σ:St} {H:Hp} {s:Vd}
theorem Inv.nofn (I:Inv X pins σ H s):Inv X.nofn pins σ H s:=⟨I.ok.nofn,I.os,I.bare,I.base,I.loc,I.cell,I.free,fun x c e=>(I.freeC x c e).imp id fun z=>⟨rfl,z.2⟩,I.pin,I.hok,I.len⟩
theorem Inv.freeze {x:Str} {cx:Ve} (I:Inv X pins σ H s) (hfn:∀ y,X.fn y=false) (hc:X.env.cells.lookup x=some cx) (hnew:X.s₀.heap.objs.size<=cx) :
  ∃ H1 oc uc,Inv X pins σ H1 s/\H1 cx=some (.frz oc uc)/\s.heap.get? cx=some oc/\(H1=H\/(H cx=none/\H1=upd H cx (DL.fzO cx oc))):=by
 rcases I.freeC x cx hc with h0 | ⟨_,o,u,h0⟩
 ·obtain⟨v,o,ho,hd⟩:=I.cell x cx hc
  refine⟨_,o,_,?_,Zaq,ho,.inr ⟨h0,rfl⟩⟩
  have stay:∀ b u,H b=some u->b≠cx:=fun b u e=>Zai e h0
  refine⟨I.ok,I.os,I.bare,⟨I.base.keep,I.base.slot,fun b ob e n hx=>?_,I.base.there,fun b xs e=>?_,fun b ob xs e=>?_,fun b ps e=>?_⟩,I.loc,I.cell,?_,fun y c e=>?_,fun p hp=>?_,fun b ob e=>?_,I.len⟩
  ·rw[Zah (Xi (Xj (Xf e) hnew))]; exact I.base.free b ob e n hx
  ·rw[Zah (stay _ _ (I.base.tups b xs e))]; exact I.base.tups b xs e
  ·rw[Zah (stay _ _ (I.base.frzs b ob xs e))]; exact I.base.frzs b ob xs e
  ·obtain⟨m,e1⟩:=I.base.tbls b ps e
   exact⟨m,by rw[Zah (stay _ _ e1)]; exact e1⟩
  ·rw[Zah (Uo (I.cne x cx hc))]; exact I.free
  ·by_cases hcc:c=cx
   ·subst hcc; exact .inr ⟨hfn y,_,_,Zaq⟩
   ·rw[Zah hcc]; exact I.freeC y c e
  ·obtain⟨h1,h2,h3,h4,h5⟩:=I.pin p hp
   refine⟨h1,?_,h3,h4,h5⟩
   rw[Zah (fun z=>?_)]
   ·exact h2
   ·rw[z,ho] at h1; cases h1; exact h5 _ hd
  ·by_cases hb:b=cx
   ·subst hb; rw[Zaq] at e; cases e; exact⟨ho,ho,⟨o,ho⟩,fun h1 h2 a k=>k _ a⟩
   ·rw[Zah hb] at e
    exact(I.hok b ob e).stay (fun c v _ q=>q) (fun c q=>by rw[Zah (stay _ _ q)]; exact q) (fun c xs q=>by rw[Zah (stay _ _ q)]; exact q)
 ·exact⟨H,o,u,I,h0,(I.hok cx _ h0).1,.inl rfl⟩
end
theorem Ydn {P:Vh} {w:Vu} {K:Xb} {mg:Str->Option Vb} {base:Vz} {k:Nat} {f:Ve} {name qual:Str} {params:Uef} {body:List Uae} {scope:Ubm} {dV kV doc pm cdv ct oc:Vb} {an od:Option Ve}
  {osl:Array (Option Vb)} {N ps:List Str} {sp:Sp} (lk:K.lookup f=some ⟨oc,od,.func (Wbc name qual params body scope dV kV doc pm an cdv ct),osl⟩) (hcd:Wcn K cdv qual=true) (S:FnScope N ps scope)
  (len:∀ vs H Q E,sp vs H Q E->vs.length=ps.length)
  (hbody:∀ (A:Vt) (outer:List Env) (s:Vd) (H:Hp) (vs:List V) (Q:VK) (E:XK),Room k (A.deeper (Ubc qual scope s.heap.objs.size f cdv))->(∀ y z,(Ubc qual scope s.heap.objs.size f cdv).cells.lookup y=some z->s.heap.objs.size<=z)->sp vs H Q E ->
   ∃ t,PSs (Zln CX0 P w K mg base N qual scope f cdv A outer s H E).nox.nofn body t/\t { nx:=fun _ H'=>Q .non H',rt:=Q } (start N vs) H) :
  FnOk P w K mg base CX0 (k+1) f (Wbc name qual params body scope dV kV doc pm an cdv ct) ps sp:=by
 refine⟨len,fun A outer s H args us vs Q E hr e0 hb r hsp=>?_⟩
 have hl:=len _ _ _ _ hsp
 have KX:K.In s.heap:=e0.mod.kin.keeps fun b o e=>(e0.bs b o e).1
 have lim:s.heap.NoLimit:=e0.mod.nolimit.keeps fun b o e=>(e0.bs b o e).1
 have hkind:∀ y∈ps.zip us,scope.names.lookup y.1=some .local\/(scope.names.lookup y.1=some .cell/\((Uee (s.heap.objs.size+1) scope.names []).lookup y.1).isSome=true):=fun⟨n,v⟩ hy=>by
  rcases S.par n (Wcs hy).1 with q | q
  ·exact .inl q
  ·exact .inr ⟨q,Wcz _ _ _ (.inl q)⟩
 refine Uco hr.depth (KX _ _ lk) rfl S.co S.gen rfl (Wfc KX hcd) (hb _ _ _ _ ?_)
 refine Ubq S.kind hkind fun env he s1 x=>?_
 subst he
 refine⟨lim.keeps x.toInCall.keep,codeAny_func ?_⟩
 have I:Inv (Zln CX0 P w K mg base N qual scope f cdv A outer s H E) [] (start N vs) H s1:=Zlv S hr.hd e0 hl r x
 obtain⟨t,ht,hq⟩:=hbody A outer s H vs Q E (hr.deeper _) (fun y z e=>I.ok.cab y z rfl e) hsp
 refine Uan (ht [] s1 (start N vs) H _ (I.wish _).nofn hq) (fun fl s' hs=>?_) fun e s' hs=>hs.elim
 have fin:∀ {σ':St} {H':Hp} {v:V} {u:Vb},Inv (Zln CX0 P w K mg base N qual scope f cdv A outer s H E).nox.nofn [] σ' H' s'->Zcg v u->Q v H'->CE outer P w H s Q u s' :=
  fun {σ' H' v u} J rv q=>⟨v,H',J.os,J.bare,J.base,J.hok,rv,q⟩
 cases fl with
 | ret u =>
  obtain⟨v,σ',H',J,rv,q⟩:=hs
  exact fin J rv q
 | next =>
  obtain⟨σ',H',J,q⟩:=hs
  exact fin (v:=V.non) (u:=Uq) J rfl q
 | brk =>
  obtain⟨_,_,_,q⟩:=hs
  exact Ul q
 | cont =>
  obtain⟨_,_,_,q⟩:=hs
  exact Ul q
end L2
namespace DL
open PySem PySem.Spec PyProof.Rows L2 PySem.W
theorem Zrg {K:Xb} {n:Str} {f c P:Ve} {oc:Vb} {od:Option Ve} {fd:Uaq} {sl:Array (Option Vb)} (h:Uej K n=some (c,P)) (hn:nsIn K Vl n=some (some (.ref f))) (hl:K.lookup f=some ⟨oc,od,.func fd,sl⟩):fd.code=.ref c:=by
 unfold Uej at h
 rw[hn] at h
 simp only[hl] at h
 split at h
 ·rename_i c2 hc
  split at h
  ·split at h
   ·cases h; exact hc
   ·cases h
  ·cases h
 ·cases h
section
variable {P:Vh} {w:Vu} {K:Xb} {mg:Str->Option Vb} {base:Vz}
theorem fn_fN {x qual n:Str} {st:Uae} {f c T:Ve} {fd:Uaq} {N ps:List Str} {k:Nat} {b:SF} (F:Fun K x qual st f fd) (S:FnScope N ps (Zad st)) (hn:nsIn K Vl n=some (some (.ref f))) (ht:Uej K n=some (c,T))
  (hb:∀ (A:Vt) (outer:List Env) (s:Vd) (H:Hp) (E:XK),Room k (A.deeper (Ubc qual (Zad st) s.heap.objs.size f (.ref c)))->(∀ y z,(Ubc qual (Zad st) s.heap.objs.size f (.ref c)).cells.lookup y=some z->s.heap.objs.size<=z) ->
   Znr (Zln CX0 P w K mg base N qual (Zad st) f (.ref c) A outer s H E).nox.nofn (Za7 st) b):FnOk P w K mg base CX0 (k+1) f fd ps (spF K ps.length (Zbd ps.length N.length b)):=by
 obtain⟨oc,od,kV,doc,pm,an,cdv,ct,osl,rfl,lk,hcd⟩:=F.ex
 obtain rfl:cdv=.ref c:=Zrg ht hn lk
 refine Ydn lk hcd S (fun vs H Q E h=>?_) (fun A outer s H vs Q E hr hnew h=>?_)
 ·obtain⟨ι,ds,Hd,d,Hd',hl,_,r,_⟩:=h
  rw[<- Prd.len r]; exact hl
 ·obtain⟨ι,ds,Hd,d,Hd',hl,hh,r,e,q⟩:=h
  refine⟨_,hb A outer s H E hr hnew,?_⟩
  unfold Zbd at e
  rw[if_pos hl] at e
  obtain⟨⟨fl,σ1,H1⟩,e1,e⟩:=Zo e
  refine⟨ι,_,Hd,fl,σ1,H1,?_,hh,e1,fun σ' H' ι' l h ss=>?_⟩
  ·refine⟨by simp[L2.start,Prd.len r],fun i d0 h0=>?_⟩
   unfold L2.start
   by_cases hi:i<ds.length
   ·rw[Xg (by simpa using hi),Xp] at h0
    cases ed:ds[i]? with
    | none=>rw[ed] at h0; cases h0
    | some d1 =>
     rw[ed] at h0
     cases h0
     obtain⟨v,hv,rv⟩:=Prd.get r ed
     refine⟨v,?_,rv⟩
     rw[Xg (by rw[Xk,<- Prd.len r]; exact hi),Xp,hv]
     rfl
   ·rw[Xo (by simpa using hi),Wbp] at h0
    split at h0<;>cases h0
  ·cases fl with
   | rt d1=>cases e; exact fun v rv=>q v H' ι' l h rv
   | nx=>cases e; exact q .non H' ι' l h (by simp)
   | bk=>cases e
   | ct=>cases e
end
nonrec def sDef (t i j:Nat) (n:String) (x:Str):SF:=fun σ H=>match σ[j]? with
 | some (some d)=>match H[t]? with
  | some (.tab n' _)=>if n'=n then some (.nx,σ.set i (some (.ref H.length)),H.set t (.tab n true)++[.clo n x d]) else none
  | _=>none
 | _=>none
section
variable {X:Cx}
theorem Zz7 {n:String} {x name:Str} {params:Uef} {body:List Uae} {scope:Ubm} {pos:Pos} {i j t:Nat} {c P cx:Ve}
  (hst:∀ st',Zi8 X.K n st'->st'=.FunctionDef name params body [] none [] scope none name pos)
  (hfn:∀ y,X.fn y=false) (hN:X.N.Nodup) (hj:X.N[j]? = some x) (hxc:X.env.scope.names.lookup x=some .cell) (hi:X.N[i]? = some name) (hl:X.env.scope.names.lookup name=some .local)
  (hcode:X.env.code=.ref c) (ht:Uej X.K (Ua n)=some (c,P)) (C:CodeHd X.base c P) (B:X.base.BuiltinsAt X.mg P) (hq:qualnameIn X.env name name=Ua n ++ ".<locals>." ++ name)
  (hcx:X.env.cells.lookup x=some cx) (hcl:closureFor scope X.env=pure [(x,cx)]) (hnew:X.s₀.heap.objs.size<=cx) (hd0:params.defaults=[]) (hk0:params.kw_defaults=[]) (ha:annTrees params none X.env=[]) :
  PSf X (.FunctionDef name params body [] none [] scope none name pos) (sDef t i j n x):=by
 rintro pins s σ H D I ⟨ι,σd,Hd,fl,σd',Hd',ss,hh,e,q⟩
 unfold sDef at e
 split at e
 ·rename_i d hd
  split at e
  ·rename_i n' b hb
   split at e
   ·rename_i hn'
    subst hn'
    have e':=Xy.inj e
    obtain⟨rfl,e2⟩:=Wbe.inj e'
    obtain⟨rfl,rfl⟩:=Wbe.inj e2
    obtain⟨H1,oc,uc,I1,e1,g1,hH⟩:=I.freeze hfn hcx hnew
    have hh1:HRep X.K H1 ι Hd/\Le X.K H ι H1 ι:=by
     rcases hH with rfl | ⟨z,rfl⟩
     ·exact⟨hh,Le.refl⟩
     ·exact⟨hh.tup z _,Le.fresh z _⟩
    obtain⟨hh1,l1⟩:=hh1
    obtain⟨v,hv,rv⟩:=ss.var j d hd
    have rv1:Rep X.K H1 ι d v:=rv.mono l1
    obtain⟨m,hns,hloc⟩:=id I1.loc
    obtain⟨u,ru,lk⟩:=hloc j x v hj hv (.inr (.inl hxc))
    have cu:oc.data=.cell (some u):=by
     rcases lk with ⟨k1,_⟩ | ⟨_,c2,k2,o2,k3,k4⟩
     ·have k1:X.env.scope.names.lookup x=some .local:=k1
      rw[hxc] at k1; cases k1
     ·rw[hcx] at k2; cases k2; rw[g1] at k3; cases k3; exact k4
    obtain⟨a,ha1,T⟩:=hh1.at hb
    obtain⟨st',c2,ps,t1,t2,t3,t4,t5,t6⟩:=T
    have est:=hst st' t1
    subst est
    rw[ht] at t2; cases t2
    have gP:s.heap.get? P=some (tabObj ps):=I1.hok P _ t3
    have GG:s.heap.Ns Vl X.mg:=I1.mod.glob.keeps I1.bk
    have CC:=C.keeps I1.bk
    have BB:s.heap.BuiltinsAt X.mg P:=by
     obtain⟨bm,ob,b1,b2,b3,b4,b5,b6⟩:=B
     exact⟨bm,ob,b1,b2,b3,b4,I1.bk _ _ b5,b6⟩
    have fin:∀ (f':Ve) (H2:Hp) (s2:Vd),Inv X pins σ H2 s2->Le X.K H1 ι H2 (ι++[f'])->HRep X.K H2 (ι++[f']) (Hd.set t (.tab n' true)++[.clo n' x d]) ->
      Vf (Vm X.prog X.w) X.A (Uec X.env name (.ref f')) (fun _ s''=>SP X pins D .next s'') X.xe s2:=fun f' H2 s2 I2 l2 h2=>by
     refine Zij I2 hN hi (.inl hl) (v:=.ref f') rfl (fun s' I3 _=>⟨_,H2,I3,q _ H2 (ι++[f']) (l1.trans l2) h2 ?_⟩) (.inr hl)
     refine(ss.mono (l1.trans l2)).set (Za0.mpr ⟨f',rfl,?_⟩) i
     rw[<- hh.len,Xo (Xd _)]
     simp
    refine nestDef_K hd0 hk0 ha ?_
    rw[hq]
    cases b with
    | true =>
     obtain⟨c',t7,t8⟩:=t6 rfl
     refine makeFunction_hit hcl I1.ok.glob GG hcode CC gP t4 t7 BB fun ctv doc h' tk hk hsz=>?_
     have kk:∀ b o,s.heap.get? b=some o->(h'.push (fnMade name (Ua n' ++ ".<locals>." ++ name) params body scope [(x,cx)] doc ((X.mg "__name__").getD .none) c' ctv)).get? b=some o:=fun b o e=>Xa _ (hk b o e)
     have gf:(h'.push (fnMade name (Ua n' ++ ".<locals>." ++ name) params body scope [(x,cx)] doc ((X.mg "__name__").getD .none) c' ctv)).get? h'.objs.size=some _:=Xe _ rfl
     have I2:=I1.laid (o:=fzO h'.objs.size (fnMade name (Ua n' ++ ".<locals>." ++ name) params body scope [(x,cx)] doc ((X.mg "__name__").getD .none) c' ctv)) (t':=tk) kk hsz ⟨gf,gf,⟨_,gf⟩,fun h1 h2 a k=>k _ a⟩
     have hf:H1 h'.objs.size=none:=I1.hok.fresh hsz
     have lf:=Le.fresh1 (K:=X.K) (ι:=ι) hf (fzO h'.objs.size (fnMade name (Ua n' ++ ".<locals>." ++ name) params body scope [(x,cx)] doc ((X.mg "__name__").getD .none) c' ctv))
     refine fin _ _ _ I2 lf ?_
     have eset:Hd.set t (.tab n' true)=Hd:=by
      apply Wfk
      intro k
      rw[Wdd]
      split
      ·rename_i z
       subst z
       rw[hb,if_pos (Xc.mp hb).1]
      ·rfl
     rw[eset]
     refine hh1.new hf ⟨v,⟨_,name,_,doc,_,ctv,cx,c',oc,uc,u,t1,Zaq,t8.step lf.toLw,?_,cu,ru⟩,rv1.mono lf⟩
     exact lf.fr _ _ _ e1
    | false =>
     refine makeFunction_K hcl I1.ok.glob GG hcode CC gP t4 (t5 rfl) ?_ BB fun c' ctv doc h' tk hx hge hlt hrec htb=>?_
     ·intro z
      obtain⟨o,es,ep,e,hd,_⟩:=GG
      rw[z,gP] at e; cases e; cases hd
     obtain⟨c3,o3,vs3,tt,e3,ho3,hd3,hv3⟩:=hrec
     cases e3
     have nP:∀ b o,H1 b=some o->(∀ ps',o≠.tbl ps')->b≠P:=fun b o h1 h2 z=>by
      subst z; rw[t3] at h1; cases h1; exact h2 _ rfl
     have nP0:∀ b,H1 b=none->b≠P:=fun b h1 z=>by subst z; rw[t3] at h1; cases h1
     have hPs:P<s.heap.objs.size:=Xf gP
     have fc:H1 c'=none:=I1.hok.fresh hge
     have hsf:s.heap.objs.size<=h'.objs.size:=Wdu (Nat.lt_of_le_of_lt hge hlt)
     have ff:H1 h'.objs.size=none:=I1.hok.fresh hsf
     have ncP:P≠c':=Xi (Xj hPs hge)
     have nfP:P≠h'.objs.size:=Xi (Xj hPs hsf)
     have ncf:c'≠h'.objs.size:=Xi hlt
     generalize hfo:fnMade name (Ua n' ++ ".<locals>." ++ name) params body scope [(x,cx)] doc ((X.mg "__name__").getD .none) c' ctv=fo
     have gf:(h'.push fo).get? h'.objs.size=some fo:=Xe _ (by rw[<- hfo]; rfl)
     have gc:(h'.push fo).get? c'=some o3:=Xa _ ho3
     have gt:(h'.push fo).get? P=some (tabObj (ps ++ #[Uaa pos.line,Uaa pos.col,.ref c'])):=Xa _ htb
     have kk:∀ b o,b≠P->s.heap.get? b=some o->(h'.push fo).get? b=some o:=fun b o hb e=>Xa _ (hx b o hb e)
     have old:∀ b u1 u2 u3,b<s.heap.objs.size->b≠P->upd (upd (upd H1 c' u1) P u2) h'.objs.size u3 b=H1 b:=fun b u1 u2 u3 h1 h2=>by
      rw[Zah (Xi (Xj h1 hsf)),Zah h2,Zah (Xi (Xj h1 hge))]
     have I2:Inv X pins σ (upd (upd (upd H1 c' (fzO c' o3)) P (.tbl (ps ++ #[Uaa pos.line,Uaa pos.col,.ref c']))) h'.objs.size (fzO h'.objs.size fo)) { s with heap:=h'.push fo,toks:=tk }:=by
      refine I1.step (g':=s.gens) (d':=s.drawn) (ch:=[]) (fun _ z=>nomatch z) (fun b o _ _ _ e n=>kk b o (nP0 b n) e) (fun b o _ _ _ e n=>⟨o.slots,kk b o (nP0 b n) e⟩) (fun b o _ e n=>?_) (fun b o _ e=>?_) (fun b xs e=>?_) (fun b o u e=>?_) (fun b ps' e=>?_) (fun m hn=>?_) (fun b o e=>?_) I1.bare
      ·rw[old b _ _ _ (Xf e) (nP0 b n)]; exact n
      ·by_cases hbP:b=P
       ·subst hbP; exact⟨_,gt⟩
       ·exact⟨o,kk b o hbP e⟩
      ·rw[old b _ _ _ (I1.hok.lt e) (nP b _ e (by simp))]; exact e
      ·rw[old b _ _ _ (I1.hok.lt e) (nP b _ e (by simp))]; exact e
      ·by_cases hbP:b=P
       ·subst hbP
        rw[t3] at e
        cases e
        exact⟨_,by rw[Zah nfP,Zaq]⟩
       ·exact⟨#[],by rw[old b _ _ _ (I1.hok.lt e) hbP,e]; simp⟩
      ·exact(hn.extBut hx (nP0 _ I1.free)).push _
      ·by_cases hbf:b=h'.objs.size
       ·subst hbf; rw[Zaq] at e; cases e; exact⟨gf,gf,⟨_,gf⟩,fun h1 h2 a k=>k _ a⟩
       ·rw[Zah hbf] at e
        by_cases hbP:b=P
        ·subst hbP; rw[Zaq] at e; cases e; exact gt
        ·rw[Zah hbP] at e
         by_cases hbc:b=c'
         ·subst hbc; rw[Zaq] at e; cases e; exact⟨gc,gc,⟨_,gc⟩,fun h1 h2 a k=>k _ a⟩
         ·rw[Zah hbc] at e
          refine(I1.hok b o e).stay (fun c v hc q=>?_) (fun c q=>?_) (fun c xs q=>?_)
          ·refine kk c v ?_ q
           rcases hc with rfl | hc
           ·exact hbP
           ·exact nP c _ hc (by simp)
          ·rw[old c _ _ _ (I1.hok.lt q) (nP c _ q (by simp))]; exact q
          ·rw[old c _ _ _ (I1.hok.lt q) (nP c _ q (by simp))]; exact q
     have mP:P∈ι:=Xu ha1
     have la:=Le.fresh (K:=X.K) (ι:=ι) fc (fzO c' o3)
     have tP:upd H1 c' (fzO c' o3) P=some (.tbl ps):=by rw[Zah ncP]; exact t3
     have lb:=Le.upd (K:=X.K) mP tP trivial (.tbl (ps ++ #[Uaa pos.line,Uaa pos.col,.ref c']))
     have fb:upd (upd H1 c' (fzO c' o3)) P (.tbl (ps ++ #[Uaa pos.line,Uaa pos.col,.ref c'])) h'.objs.size=none:=by
      rw[Zah (Uo nfP),Zah (Uo ncf)]; exact ff
     have lc:=Le.fresh1 (K:=X.K) (ι:=ι) fb (fzO h'.objs.size fo)
     have cod:Zqk (upd (upd H1 c' (fzO c' o3)) P (.tbl (ps ++ #[Uaa pos.line,Uaa pos.col,.ref c']))) c' (Ua n' ++ ".<locals>." ++ name):=⟨o3,vs3,tt,by rw[Zah (Uo ncP),Zaq],hd3,hv3⟩
     refine fin _ _ _ I2 ((la.trans lb).trans lc) ?_
     have hb2:=(hh1.tup fc (fzO c' o3)).upd (u:=.tbl (ps ++ #[Uaa pos.line,Uaa pos.col,.ref c'])) (ob:=.tab n' true) ha1 tP trivial
      ⟨_,c,_,t1,ht,Zaq,by rw[Wez]; exact TriplesOk_snoc _ _ _ _ t4,(fun z=>by cases z),fun _=>⟨c',by rw[Wez]; exact codeAmong_snoc _ t4 (t5 rfl),cod⟩⟩
     have hlen:(Hd.set t (.tab n' true)).length=Hd.length:=by simp
     refine hb2.new fb ⟨v,⟨_,name,_,doc,(X.mg "__name__").getD .none,ctv,cx,c',oc,uc,u,t1,?_,cod.step lc.toLw,?_,cu,ru⟩,(rv1.mono (la.trans lb)).mono lc⟩
     ·rw[Zaq,<- hfo]; rfl
     ·exact lc.fr _ _ _ (lb.fr _ _ _ (la.fr _ _ _ e1))
   ·cases e
  ·cases e
 ·cases e
end
structure Tabs (K:Xb) (names:List String) (tabs:List (Ve×Ve)):Prop where
 len:tabs.length=names.length
 nd:(tabs.map (·.2)).Nodup
 at':∀ (i:Nat) (n:String) (q:Ve×Ve),names[i]? = some n->tabs[i]? = some q->Uej K (Ua n)=some q/\∃ st,Zi8 K n st
 no:noTabs K=true
nonrec def Ze8 (names:List String):HD:=names.map fun n=>DO.tab n false
theorem Zu0 {K:Xb} {H:Hp} {names:List String} {tabs:List (Ve×Ve)} (T:Tabs K names tabs) (h:∀ q∈tabs,H q.2=some (.tbl #[])):HRep K H (tabs.map (·.2)) (Ze8 names):=by
 refine⟨by simp[Ze8,T.len],T.nd,fun i a o h1 h2=>?_⟩
 rw[Xp] at h1
 unfold Ze8 at h2
 rw[Xp] at h2
 cases e1:tabs[i]? with
 | none=>rw[e1] at h1; cases h1
 | some q =>
  cases e2:names[i]? with
  | none=>rw[e2] at h2; cases h2
  | some n =>
   rw[e1] at h1
   rw[e2] at h2
   cases h1
   cases h2
   obtain⟨h3,st,h4⟩:=T.at' i n q e2 e1
   exact⟨st,q.1,#[],h4,h3,h q (Xu e1),trivial,fun _=>rfl,fun z=>by cases z⟩
def Zy0 (tabs:List (Ve×Ve)) (H:Hp):Prop:=(∀ q∈tabs,H q.2=some (.tbl #[]))/\∀ b,H b=none\/(∃ o xs,H b=some (.frz o (.lst xs)))\/∃ q∈tabs,b=q.2
theorem Zst {P:Vh} {w:Vu} {K:Xb} {mg mb:Str->Option Vb} {k:Nat} {fa a:Ve} {fd:Uaq} {x:Str} {sp:Sp} {s₁:Vd} {vs:List Vb} {ns:List Int} {tabs:List (Ve×Ve)}
  (KX:K.In s₁.heap) (hns:s₁.heap.Ns Vl mg) (hb:s₁.heap.Ns builtinsNs mb) (hbb:∀ x:Str,x ≠ "__name__" -> mb x=Vq x) (hlim:s₁.heap.NoLimit) (hg:s₁.gens = #[])
  (ha:s₁.heap.get? a=some { cls:=.type "list",data:=.seq vs.toArray }) (hi:Ubd vs ns) (hl:ns.length<=sizeLine) (hr:Room k Udu)
  (hT:TabsAt tabs s₁.heap) (hno:noTabs K=true) (hB:∀ q∈tabs,s₁.heap.BuiltinsAt mg q.2)
  (F:∀ base:Vz,K.In base->base.Ns Vl mg->(∀ q∈tabs,CodeHd base q.1 q.2/\base.BuiltinsAt mg q.2)->FnOk P w K mg base CX0 k fa fd [x] sp) (hbind:∀ (s:Vd) (u:Vb),BindsTo s fd ⟨[u],[]⟩ [(x,u)])
  (hsp:∀ H:Hp,Zy0 tabs H->SqL K H a (ns.map V.int)->sp [.ref a] H (fun v _=>v=.bl true) fun _ _ _=>False) :
  Ucn (Vm P w) Udu (.call (.ref fa) ⟨[.ref a],[]⟩) (fun r s'=>r=.ok (.ret (.bool true))/\OldK s₁.heap s'.heap/\s'.os=s₁.os/\Ucj s'.gens) s₁:=by
 have rv:=L2.vals_ints hi
 have lenV:=hi.length
 have core:∀ H:Hp,Zy0 tabs H->SqL K H a (ns.map V.int)->HOk P w H s₁.heap->(∀ b,H b≠none->b=a\/∃ q∈tabs,b=q.2)->(H a≠none->K.lookup a=none) ->
   Ucn (Vm P w) Udu (.call (.ref fa) ⟨[.ref a],[]⟩) (fun r s'=>r=.ok (.ret (.bool true))/\OldK s₁.heap s'.heap/\s'.os=s₁.os/\Ucj s'.gens) s₁:=by
  intro H hO hS hok hA hK
  have base_of:∀ {b:Ve} {o:Obj},s₁.heap.get? b=some o->H b=none->(Zue s₁.heap H).get? b=some o:=fun e n=>Zv0 e n
  have noH:∀ {b:Ve} {o:Obj},s₁.heap.get? b=some o->(∀ i m,o.data≠.seq i m)->(o.cls=.none->∀ fs,o.data≠.fields fs)->H b=none:=fun {b o} e d1 d2=>by
   cases q:H b with
   | none=>rfl
   | some u =>
    rcases hA b (by rw[q]; simp) with e' | ⟨t,ht,e'⟩
    ·subst e'
     rw[ha] at e; cases e
     exact absurd rfl (d1 _ _)
    ·subst e'
     rw[(hT t ht).2] at e; cases e
     exact absurd rfl (d2 rfl _)
  have nsK:∀ {b:Ve} {m:Str->Option Vb},s₁.heap.Ns b m->(Zue s₁.heap H).Ns b m:=fun {b m} ⟨o,es,ep,e,d,r⟩=>⟨o,es,ep,base_of e (noH e (fun i m z=>by rw[d] at z; cases z) (fun _ fs z=>by rw[d] at z; cases z)),d,r⟩
  have hKb:K.In (Zue s₁.heap H):=fun b o e=>base_of (KX b o e) (by
   cases q:H b with
   | none=>rfl
   | some u =>
    rcases hA b (by rw[q]; simp) with e' | ⟨t,ht,e'⟩
    ·subst e'
     rw[hK (by rw[q]; simp)] at e; cases e
    ·subst e'
     have e3:=KX _ _ e
     rw[(hT t ht).2] at e3
     cases e3
     have h2:=Wab.mp hno _ (mem_of_lookupK e)
     exact absurd (show false=true from h2) Wbj)
  have hM:Mod K mg (Zue s₁.heap H):=⟨hKb,nsK hns,⟨mb,nsK hb,hbb⟩,let ⟨mc,h1,h2⟩:=hlim; ⟨mc,nsK h1,h2⟩⟩
  have hC:∀ q∈tabs,CodeHd (Zue s₁.heap H) q.1 q.2/\(Zue s₁.heap H).BuiltinsAt mg q.2:=fun q hq=>by
   refine⟨?_,?_⟩
   ·obtain⟨o,vs,file,tf,flags,tg,inF,text,tt,e,c1,c2,r⟩:=(hT q hq).1
    refine⟨o,vs,file,tf,flags,tg,inF,text,tt,base_of e (noH e (fun i m z=>by rw[c2] at z; cases z) (fun z=>by rw[c1] at z; cases z)),c1,c2,r⟩
   ·obtain⟨bm,ob,b1,b2,b3,b4,b5,b6,b7,b8⟩:=hB q hq
    exact⟨bm,ob,b1,b2,b3,b4,base_of b5 (noH b5 (fun i m z=>by rw[b8] at z; cases z) (fun z=>by rw[b6] at z; cases z)),b6,b7,b8⟩
  have e0:Env0 P w K mg (Zue s₁.heap H) Udu [] s₁ H:=⟨rfl,hM,fun b o e=>Zz1 e,Nat.le_of_eq (Ztk _ _),trivial,fun b hb=>absurd (show b∈([]:List Ve) from hb) (by simp),hok,.of_eq hg⟩
  refine Uax ((F _ hKb (nsK hns) hC).run Udu [] s₁ H ⟨[.ref a],[]⟩ [.ref a] [.ref a] _ _ hr e0 (hbind s₁ (.ref a)) (.cons rfl .nil) (hsp H hO hS)) fun r s' h=>?_
  cases r with
  | error e=>exact(show False from h).elim
  | ok fl =>
   cases fl with
   | next=>exact Ul h
   | brk=>exact Ul h
   | cont=>exact Ul h
   | ret u =>
    obtain⟨v,H',os,bare,un,hok',r',q⟩:=h
    have q':v=.bl true:=q
    subst q'
    obtain rfl:u=Tci true:=r'
    have all:∀ b o,s₁.heap.get? b=some o->s'.heap.get? b=some o\/∃ t∈tabs,b=t.2/\o=tabObj #[]/\∃ ps,s'.heap.get? b=some (tabObj ps):=fun b o e=>by
     cases q:H b with
     | none=>exact .inl (un.keep b o e q (by intro z; exact absurd (show b∈([]:List Ve) from z) (by simp)) (by simp))
     | some u =>
      rcases hO.2 b with z | ⟨ob,xs,z⟩ | ⟨t,ht,z⟩
      ·rw[q] at z; cases z
      ·have z2:=un.frzs b ob _ z
       obtain⟨e1,_⟩:=hok b _ z
       obtain⟨e2,_⟩:=hok' b _ z2
       rw[e] at e1; cases e1
       exact .inl e2
      ·subst z
       obtain⟨m,e1⟩:=un.tbls _ _ (hO.1 t ht)
       rw[(hT t ht).2] at e
       exact .inr ⟨t,ht,rfl,(Xy.inj e).symm,_,hok' _ _ e1⟩
    refine⟨rfl,⟨fun b o e=>?_,fun b o e=>?_⟩,os,bare⟩
    ·rcases all b o e with z | ⟨t,ht,rfl,rfl,ps,z⟩
     ·exact .inl z
     ·exact .inr (.inl ⟨((hT t ht).1.tab (hT t ht).2).isCodeTable,rfl,#[],ps,rfl,by rw[Wfe]; exact z⟩)
    ·rcases all b o e with z | ⟨t,ht,_,_,ps,z⟩
     ·exact⟨_,z⟩
     ·exact⟨_,z⟩
 have naT:∀ q∈tabs,q.2≠a:=fun q hq z=>by
  have e:=(hT q hq).2
  rw[z,ha] at e; cases e
 have tabOk:∀ (H:Hp) (q:Ve×Ve),q∈tabs->Zc9 P w H s₁.heap q.2 (.tbl #[]):=fun H q hq=>(hT q hq).2
 open Classical in
 cases hk:K.lookup a with
 | some o =>
  have e:=KX a o hk
  rw[ha] at e
  cases e
  refine core (fun b=>if ∃ q∈tabs,b=q.2 then some (.tbl #[]) else none) ⟨fun q hq=>if_pos ⟨q,hq,rfl⟩,fun b=>?_⟩ (.inr ⟨_,vs.toArray,_,hk,rfl,rfl,rfl,by rw[Xm,lenV]; exact hl,by simpa using rv⟩) (fun b u z=>?_) (fun b z=>?_) fun z=>?_
  ·by_cases hb:∃ q∈tabs,b=q.2
   ·exact .inr (.inr hb)
   ·exact .inl (if_neg hb)
  ·by_cases hb:∃ q∈tabs,b=q.2
   ·have z':=(if_pos hb).symm.trans z
    cases z'
    obtain⟨q,hq,rfl⟩:=hb
    exact tabOk _ q hq
   ·have z':=(if_neg hb).symm.trans z
    cases z'
  ·by_cases hb:∃ q∈tabs,b=q.2
   ·exact .inr hb
   ·exact absurd (if_neg hb) z
  ·have:¬ ∃ q∈tabs,a=q.2:=fun⟨q,hq,z⟩=>naT q hq z.symm
   exact absurd (if_neg this) z
 | none =>
  refine core (fun b=>if b=a then some (.frz { cls:=.type "list",data:=.seq vs.toArray } (.lst (ns.map V.int))) else if ∃ q∈tabs,b=q.2 then some (.tbl #[]) else none) ⟨fun q hq=>?_,fun b=>?_⟩ (.inl (.inr ⟨{ cls:=.type "list",data:=.seq vs.toArray },if_pos rfl⟩)) (fun b u z=>?_) (fun b z=>?_) fun _=>hk
  ·exact(if_neg (naT q hq)).trans (if_pos ⟨q,hq,rfl⟩)
  ·by_cases hb:b=a
   ·exact .inr (.inl ⟨_,_,if_pos hb⟩)
   ·by_cases hb2:∃ q∈tabs,b=q.2
    ·exact .inr (.inr hb2)
    ·exact .inl ((if_neg hb).trans (if_neg hb2))
  ·by_cases hb:b=a
   ·have z':=(if_pos hb).symm.trans z
    cases z'
    subst hb
    exact⟨ha,by rw[Xk]; exact hl,vs,_,rv,ha⟩
   ·by_cases hb2:∃ q∈tabs,b=q.2
    ·have z':=((if_neg hb).trans (if_pos hb2)).symm.trans z
     cases z'
     obtain⟨q,hq,rfl⟩:=hb2
     exact tabOk _ q hq
    ·have z':=((if_neg hb).trans (if_neg hb2)).symm.trans z
     cases z'
  ·by_cases hb:b=a
   ·exact .inl hb
   ·by_cases hb2:∃ q∈tabs,b=q.2
    ·exact .inr hb2
    ·exact absurd ((if_neg hb).trans (if_neg hb2)) z
theorem Zq9 {F:FF} {names:List String} (h:∀ ns:List Int,ns.length<=63->∃ Hd',F [.fl (ns.map .int)] (Ze8 names)=some (.bl true,Hd')) {K:Xb} {tabs:List (Ve×Ve)} (T:Tabs K names tabs) :
  ∀ (H:Hp) (a:Ve) (ns:List Int),ns.length<=63->Zy0 tabs H->SqL K H a (ns.map V.int)->Yby F K [.ref a] H (fun v _=>v=.bl true) fun _ _ _=>False:=by
 intro H a ns hl hO hS
 obtain⟨Hd',e⟩:=h ns hl
 have fz:FzL K H a (ns.map V.int):=by
  rcases hS with (h | h) | h
  ·rcases hO.2 a with z | ⟨o,xs,z⟩ | ⟨q,hq,z⟩
   ·rw[h] at z; cases z
   ·rw[h] at z; cases z
   ·subst z; rw[hO.1 q hq] at h; cases h
  ·exact .inl h
  ·exact .inr h
 have P:Vj (Rep K H (tabs.map (·.2))) (ns.map D.int) (ns.map V.int):=by
  generalize ns=ks
  induction ks with
  | nil=>exact .nil
  | cons k ks ih=>exact .cons (by simp) ih
 exact⟨tabs.map (·.2),[.fl (ns.map .int)],Ze8 names,.bl true,Hd',rfl,Zu0 T hO.1,.cons (Zgq.mpr ⟨a,_,rfl,fz,P⟩) .nil,e,fun v H' ι' l h r=>by simpa using r⟩
def Zr6 (K:Xb) (mg:Str->Option Vb) (base:Vz) (n:String):Prop:=∃ c P,Uej K (Ua n)=some (c,P)/\CodeHd base c P/\base.BuiltinsAt mg P
theorem Zwk {l:Tcn} {k:Nat} {q:Vh} {loose:List Str} {XP:(Str->Option Vb)->Vz->Prop} {YP:Vu->Vz->Prop} {d:DefRec} {K:Params->Xb} {G:FF} {x:Str} {names:List String}
  (hn:l.most=some 63) (hdf:d.params.defaults=[]) (hr:Room k Udu)
  (hY:∀ (w:Vu) (h:Vz),YP w h->(K w.params).In h) (hrec:∀ n∈names,((recsOf q).find? (fun e=>e.name==Ua n)).isSome=true)
  (hTb:∀ (w:Vu) (mg:Str->Option Vb) (h:Vz),(K w.params).In h->h.Ns Vl mg->∃ tabs,Tabs (K w.params) names tabs)
  (F:∀ (w:Vu) (mg:Str->Option Vb) (fa:Ve) (h:Vz),(K w.params).In h->h.Ns Vl mg->mg d.name=some (.ref fa) ->
   ∃ fd:Uaq,(∀ (s:Vd) (u:Vb),BindsTo s fd ⟨[u],[]⟩ [(x,u)]) /\
    ∀ base:Vz,(K w.params).In base->base.Ns Vl mg->(∀ n∈names,Zr6 (K w.params) mg base n)->FnOk l.prog w (K w.params) mg base CX0 k fa fd [x] (Yby G (K w.params)))
  (hG:∀ ns:List Int,ns.length<=63->∃ Hd',G [.fl (ns.map .int)] (Ze8 names)=some (.bl true,Hd')) :
  Wga q loose XP YP l.row.toRowW d [] (fun f vs=>Tcs f vs):=by
 refine Att.attach_call hn hdf fun w s₀ s₁ mg mb fa o pm cd doc a vs ns G' Y ho hd hcd hmg hobj hints hlen hg=>?_
 have KX:=hY w _ Y
 obtain⟨tabs,T⟩:=hTb w mg _ KX G'.T.g
 obtain⟨fd,hb,hF⟩:=F w mg fa _ KX G'.T.g hmg
 have name_of:∀ t∈tabs,∃ n∈names,Uej (K w.params) (Ua n)=some t:=fun t ht=>by
  obtain⟨i,hi⟩:=Wbn.mp ht
  have hl:i<names.length:=by rw[<- T.len]; exact(Xc.mp hi).1
  exact⟨names[i],Wac hl,(T.at' i _ t (Xn hl) hi).1⟩
 have tab_of':∀ n∈names,∃ t∈tabs,Uej (K w.params) (Ua n)=some t:=fun n hn=>by
  obtain⟨i,hi⟩:=Wbn.mp hn
  have hl:i<tabs.length:=by rw[T.len]; exact(Xc.mp hi).1
  exact⟨tabs[i],Wac hl,(T.at' i n _ hi (Xn hl)).1⟩
 have hT:TabsAt tabs s₁.heap:=fun t ht=>by
  obtain⟨n,hn,e⟩:=name_of t ht
  obtain⟨dr,hdr⟩:=Waj.mp (hrec n hn)
  exact tab_of G'.T KX hdr e
 have hB:∀ t∈tabs,s₁.heap.BuiltinsAt mg t.2:=fun t ht=>by
  obtain⟨bm,ob,b1,b2,b3,b4,b5,b6⟩:=G'.T.bmain
  refine⟨bm,ob,b1,b2,fun z=>?_,fun z=>?_,b3,b4,b5,b6⟩
  ·obtain⟨o,es,ep,e,hd,_⟩:=G'.T.g
   rw[z,e] at b3; cases b3; rw[hd] at b6; cases b6
  ·rw[z,(hT t ht).2] at b3; cases b3; cases b4
 exact Zst KX G'.T.g G'.T.b G'.T.builtins G'.T.nolimit hg hobj hints (Waf hlen (by decide)) hr hT T.no hB
  (fun base h1 h2 h3=>hF base h1 h2 fun n hn=>by
   obtain⟨t,ht,e⟩:=tab_of' n hn
   exact⟨t.1,t.2,e,h3 t ht⟩) hb (fun H hO hS=>Zq9 hG T H a ns hlen hO hS)
theorem us6 {us:List Vb} (h:us.length=6):∃ a b c d e f,us=[a,b,c,d,e,f]:=by
 obtain⟨a,t,rfl⟩:=Wah h
 obtain⟨b,c,d,e,f,rfl⟩:=us5 (us:=t) (by simpa using h)
 exact⟨a,b,c,d,e,f,rfl⟩
def Tn (K:Xb) (mg:Str->Option Vb) (n:String) (st:Uae):Prop :=
 ∃ f fd c P,Fun K (Ua n) (Ua n) st f fd/\mg (Ua n)=some (.ref f)/\nsIn K Vl (Ua n)=some (some (.ref f))/\Uej K (Ua n)=some (c,P)
theorem Ydh {K:Xb} {n:Str} {f c P:Ve} {oc oc2:Vb} {od od2:Option Ve} {fd:Uaq} {sl sl2:Array (Option Vb)} {vs:Array Vb} (a:nsIn K Vl n=some (some (.ref f))) (l:K.lookup f=some ⟨oc,od,.func fd,sl⟩) (e:fd.code=.ref c)
  (m:K.lookup c=some ⟨oc2,od2,.fields vs,sl2⟩) (v:vs[11]? = some (.ref P)):Uej K n=some (c,P):=by
 unfold Uej
 rw[a]
 simp only[l,e,m,v]
theorem tn_mk {K:Xb} {h:Vz} {mg:Str->Option Vb} {n:String} {st:Uae} {f c P:Ve} {oc oc2:Vb} {od od2 an:Option Ve} {osl sl2:Array (Option Vb)} {kV doc pm ct:Vb} {vs:Array Vb} (X:K.In h) (G:h.Ns Vl mg)
  (a:nsIn K Vl (Ua n)=some (some (.ref f))) (l:K.lookup f=some ⟨oc,od,.func (Wbc (Ua n) (Ua n) (Zck st) (Za7 st) (Zad st) .none kV doc pm an (.ref c) ct),osl⟩)
  (cc:Wcn K (.ref c) (Ua n)=true) (k:Wcd K (.ref f)=true) (m:K.lookup c=some ⟨oc2,od2,.fields vs,sl2⟩) (v:vs[11]? = some (.ref P)):Tn K mg n st:=⟨f,_,c,P,Zxi l cc k,Wfd X G a,a,Ydh a l rfl m v⟩
section
variable {P:Vh} {w:Vu} {K:Xb} {mg:Str->Option Vb} {base:Vz} {n:String} {st:Uae}
theorem Tn.first (T:Tn K mg n st) {s2:Uae} {r:List Uae} (h:Za7 st=s2::r):∀ st',Zi8 K n st'->st'=s2:=by
 rintro st' ⟨f0,o0,fd0,rest,h1,h2,h3,h4⟩
 obtain⟨f,fd,c,T',F,m,a,t⟩:=T
 obtain⟨oc,od,kV,doc,pm,an,cdv,ct,osl,rfl,lk,hcd⟩:=F.ex
 rw[a] at h1
 cases h1
 rw[lk] at h2
 cases h2
 cases h3
 have h5:Tcr (Za7 st)=.stmts (st'::rest):=h4
 injection h5 with h6
 rw[h] at h6
 exact(Wbu.inj h6).1.symm
theorem Tn.nest (T:Tn K mg n st) {s2:Uae} {r:List Uae} (h:Za7 st=s2::r):∃ st',Zi8 K n st':=by
 obtain⟨f,fd,c,T',F,m,a,t⟩:=T
 obtain⟨oc,od,kV,doc,pm,an,cdv,ct,osl,rfl,lk,hcd⟩:=F.ex
 exact⟨s2,f,_,_,r,a,lk,rfl,by show Tcr (Za7 st)=_; rw[h]⟩
theorem Yb0 {N ps:List Str} {k:Nat} {b:SF} (T:Tn K mg n st) (B:Zr6 K mg base n) (S:FnScope N ps (Zad st))
  (hbd:∀ (kV doc pm:Vb) (an:Option Ve) (cdv ct:Vb) (us:List Vb),us.length=ps.length->Uby (Wbc (Ua n) (Ua n) (Zck st) (Za7 st) (Zad st) .none kV doc pm an cdv ct) ⟨us,[]⟩=pure (ps.zip us))
  (hb:∀ (f c T:Ve) (A:Vt) (outer:List Env) (s:Vd) (H:Hp) (E:XK),Uej K (Ua n)=some (c,T)->CodeHd base c T->base.BuiltinsAt mg T->Room k (A.deeper (Ubc (Ua n) (Zad st) s.heap.objs.size f (.ref c))) ->
   (∀ y z,(Ubc (Ua n) (Zad st) s.heap.objs.size f (.ref c)).cells.lookup y=some z->s.heap.objs.size<=z) ->
   Znr (Zln CX0 P w K mg base N (Ua n) (Zad st) f (.ref c) A outer s H E).nox.nofn (Za7 st) b):Fn P w K mg base (k+1) (Ua n) ps (Zbd ps.length N.length b):=by
 obtain⟨f,fd,c,T',F,m,a,t⟩:=T
 obtain⟨c2,P2,t2,C,BB⟩:=B
 rw[t] at t2
 cases t2
 refine⟨f,fd,fn_fN F S a t fun A outer s H E hr hnew=>hb f c T' A outer s H E t C BB hr hnew,F.binds hbd,F.kp,m,?_⟩
 obtain⟨oc,od,kV,doc,pm,an,cdv,ct,osl,rfl,lk,hcd⟩:=F.ex
 exact⟨oc,od,osl,lk⟩
end
theorem Zvo {K:Xb} {mg:Str->Option Vb} {n:String} {st s2:Uae} {r:List Uae} (T:Tn K mg n st) (hb:Za7 st=s2::r) (hn:noTabs K=true):∃ tabs,Tabs K [n] tabs:=by
 obtain⟨f,fd,c,P,F,m,a,h⟩:=id T
 exact⟨[(c,P)],rfl,by simp,fun i n' q h1 h2=>by
  cases i with
  | zero=>simp at h1 h2; subst h1 h2; exact⟨h,T.nest hb⟩
  | succ i=>simp at h1,hn⟩
end DL
namespace DL
open PySem L2
theorem Zfg {n:Nat} (h:n<=1000000):n<=sizeLine:=by rw[Uy]; omega
theorem Zi2 {xs:List D} {i:Int} {d:D} (h0:0<=i) (h:xs[i.toNat]? = some d):atI xs i=some d:=by
 have:i=(i.toNat:Int):=by omega
 rw[this]; exact Zbx h
end DL
namespace LH
open PySem L2 DL
structure ExtS (S:List Nat) (H H':HD):Prop where
 old:∀ m o,m∉S->H[m]? = some o->H'[m]? = some o
 len:H.length<=H'.length
theorem ExtS.trans {S:List Nat} {H H1 H2:HD} (a:ExtS S H H1) (b:ExtS S H1 H2):ExtS S H H2:=⟨fun m o h q=>b.old m o h (a.old m o h q),Waf a.len b.len⟩
theorem ExtS.refl {S:List Nat} {H:HD}:ExtS S H H:=⟨fun _ _ _ q=>q,Xd _⟩
nonrec def Zas (l:Int):Int:=if l<0 then -l else l
nonrec def Up (m:Int):Int->List Int->Prop
 | _,[]=>True
 | last,l::r=>last<Zas l/\Zas l<=m/\Up m (Zas l) r
theorem Ybo {m:Int}:∀ (ls:List Int) (last:Int),(ls.map Zas).Pairwise (· < ·)->(∀ x∈ls.map Zas,last<x/\x<=m)->Up m last ls
 | [],_,_,_=>trivial
 | l::r,last,p,h=>by
  rw[Xq,Wdv] at p
  have h1:=h (Zas l) (by simp)
  exact⟨h1.1,h1.2,Ybo r (Zas l) p.2 fun x hx=>⟨p.1 x hx,(h x (by rw[Xq]; exact Wak _ hx)).2⟩⟩
theorem Zce {f g:SF} {σ σ1:SD} {H H1:HD} (h:f σ H=some (.nx,σ1,H1)):Zag f g σ H=g σ1 H1:=by
 unfold Zag
 rw[h]
 rfl
theorem Zj7 {f g:SF} {σ σ1:SD} {H H1:HD} {d:D} (h:f σ H=some (.rt d,σ1,H1)):Zag f g σ H=some (.rt d,σ1,H1):=by
 unfold Zag
 rw[h]
 rfl
theorem Znl {i:Nat} {f:EF} {σ:SD} {H H1:HD} {d:D} (h:f σ H=some (d,H1)):Zbg i f σ H=some (.nx,σ.set i (some d),H1):=by
 unfold Zbg
 rw[h]
 rfl
def Zb6 (d:D):Prop:=d=.str "all" \/ d=.str "some"
theorem Zhh {H:HD}:Zb7 [] H:=by intro x hx; simp at hx
theorem Zut (H:HD) (n:Nat) (i:Int):toP H n (.int i)=some (.int i):=by cases n<;>rw[toP]
theorem Yba (H:HD) (n:Nat) (b:Bool):toP H n (.bl b)=some (.bool b):=by cases n<;>rw[toP]
theorem Zuh (H:HD) (i:Int):dat (.int i) H=some (.int i):=by
 simp[dat,Zut,okP,Tac,Tam]
theorem Zs2 (i j:Int) (H:HD):eqD (.int i) (.int j) H=some (.bl (i==j),H):=by
 simp[eqD,Zrd,Zuh,Ub]
theorem Ya4 (i j:Int) (H:HD):neD (.int i) (.int j) H=some (.bl (!(i==j)),H):=by
 simp[neD,Zrd,Zuh,Ub]
theorem Zkg (H:HD) (n:Nat) (x:Str):toP H n (.str x)=some (.str x):=by cases n<;>rw[toP]
theorem Zfl {x:Str} (h:(x.cps.toList.all fun c=>decide (c<0x110000))=true):Tbz x=true:=by
 unfold Tbz
 rw[<- Array.all_toList]
 exact h
theorem Zxu (xs:List D) (k:Nat):Znp xs (some (k:Int)) none=xs.drop k:=by
 unfold Znp
 have h1:HT.sIx xs.length 0 (some (k:Int))=min k xs.length:=by
  show (if (k:Int)<0 then ((k:Int)+(xs.length:Int)).toNat else min (k:Int).toNat xs.length)=min k xs.length
  rw[if_neg (by omega),Wag]
 have h2:HT.sIx xs.length xs.length none=xs.length:=rfl
 rw[h1,h2]
 by_cases h:k<=xs.length
 ·rw[Wdq h]
  exact Weh (by simp)
 ·rw[Nat.min_eq_right (by omega),Wei (Xd _),Wei (by omega)]
  simp
theorem Zxh (xs:List D) (k:Nat):Znp xs none (some (k:Int))=xs.take k:=by
 unfold Znp
 have h1:HT.sIx xs.length 0 none=0:=rfl
 have h2:HT.sIx xs.length xs.length (some (k:Int))=min k xs.length:=by
  show (if (k:Int)<0 then ((k:Int)+(xs.length:Int)).toNat else min (k:Int).toNat xs.length)=min k xs.length
  rw[if_neg (by omega),Wag]
 rw[h1,h2]
 simp
theorem ac {f:EF} {g:AF} {σ:SD} {H H1 H2:HD} {d:D} {ds:List D} (h1:f σ H=some (d,H1)) (h2:g σ H1=some (ds,H2)):Zab f g σ H=some (d::ds,H2):=by
 unfold Zab; rw[h1]; simp only[Zb]; rw[h2]; rfl
theorem an {σ:SD} {H:HD}:Zaf σ H=some ([],H):=rfl
theorem cb {g:FF} {f:AF} {σ:SD} {H H1:HD} {ds:List D} {r:Option (D×HD)} (h1:f σ H=some (ds,H1)) (h2:g ds H1=r):eCB g f σ H=r:=by
 unfold eCB; rw[h1]; exact h2
theorem tu {n:Nat} {xs:List D} {H:HD} (h:H[n]? = some (.lst xs)):Zd7 [.ref n] H=some (.tup xs,H):=by
 simp[Zd7,Zm0,h]
theorem tp {f:AF} {σ:SD} {H H1:HD} {ds:List D} (h1:f σ H=some (ds,H1)) (h2:ds.length<=1000000):Zdi f σ H=some (.tup ds,H1):=by
 unfold Zdi; rw[h1]; exact if_pos (Zfg h2)
theorem ls {f:AF} {σ:SD} {H H1:HD} {ds:List D} (h1:f σ H=some (ds,H1)) (h2:ds.length<=1000000):Zd3 f σ H=some (.ref H1.length,H1++[.lst ds]):=by
 unfold Zd3; rw[h1]; exact if_pos (Zfg h2)
theorem ca {n:Nat} {F:FF} {f:AF} {σ:SD} {H H1:HD} {ds:List D} {r:Option (D×HD)} (h1:f σ H=some (ds,H1)) (hl:ds.length=n) (h2:F ds H1=r):Zal n F f σ H=r:=by
 unfold Zal; rw[h1]; simp only[Zb]; rw[if_pos hl]; exact h2
theorem rt {f:EF} {σ:SD} {H H1:HD} {d:D} (h:f σ H=some (d,H1)):Zbl f σ H=some (.rt d,σ,H1):=by
 unfold Zbl; rw[h]; rfl
theorem op {g:F2} {fa fb:EF} {σ:SD} {H H1 H2:HD} {d1 d2:D} {r:Option (D×HD)} (h1:fa σ H=some (d1,H1)) (h2:fb σ H1=some (d2,H2)) (h3:g d1 d2 H2=r):eOp g fa fb σ H=r:=by
 unfold eOp; rw[h1]; simp only[Zb]; rw[h2]; exact h3
theorem Znc {t:TF} {f g:SF} {σ:SD} {H H1:HD} {b:Bool} (h:t σ H=some (b,H1)):sIf t f g σ H=if b=true then f σ H1 else g σ H1:=by
 unfold sIf; rw[h]; rfl
theorem tof {f:EF} {σ:SD} {H H1:HD} {b:Bool} (h:f σ H=some (.bl b,H1)):tOf f σ H=some (b,H1):=by
 unfold tOf; rw[h]; rfl
theorem lenT (xs:List D) (H:HD):Zct [.tup xs] H=some (.int xs.length,H):=by simp[Zct,Zm0]
theorem lenB (bs:List Bool) (H:HD):Zct [.tup (bs.map .bl)] H=some (.int bs.length,H):=by simp[Zct,Zm0]
theorem ixT {xs:List D} {i:Int} {d:D} {H:HD} (h:atI xs i=some d):ixD (.tup xs) (.int i) H=some (d,H):=by simp[ixD,Zm0,h]
theorem skip {t:TF} {f g:SF} {σ:SD} {H H1:HD} (h:t σ H=some (false,H1)):Zag (sIf t f Zak) g σ H=g σ H1:=by
 refine Zce ?_
 rw[Znc h]
 rfl
theorem hit {t:TF} {f f2 g:SF} {σ σ1:SD} {H H1 H2:HD} {d:D} (h:t σ H=some (true,H1)) (h2:f σ H1=some (.rt d,σ1,H2)):Zag (sIf t (Zag f Zak) f2) g σ H=some (.rt d,σ1,H2):=by
 refine Zj7 ?_
 rw[Znc h]
 exact Zj7 h2
theorem vr {i:Nat} {σ:SD} {H:HD} {d:D} (h:σ[i]? = some (some d)):Zac i σ H=some (d,H):=by simp[Zac,h]
theorem sl {fe:EF} {fl fh:OF} {σ:SD} {H H1 H2 H3:HD} {d:D} {l h:Option Int} {r:Option (D×HD)} (h1:fe σ H=some (d,H1)) (h2:fl σ H1=some (l,H2)) (h3:fh σ H2=some (h,H3)) (h4:slD d l h H3=r):eSl fe fl fh σ H=r:=by
 unfold eSl; rw[h1]; simp only[Zb]; rw[h2]; simp only[Zb]; rw[h3]; exact h4
theorem os {f:EF} {σ:SD} {H H1:HD} {i:Int} (h:f σ H=some (.int i,H1)):Ze2 f σ H=some (some i,H1):=by
 unfold Ze2; rw[h]; rfl
theorem on {σ:SD} {H:HD}:Zfy σ H=some (none,H):=rfl
theorem slhi {xs:List D} {k:Nat} {H:HD}:slD (.tup xs) none (some (k:Int)) H=some (.tup (xs.take k),H):=by
 rw[<- Zxh]; rfl
theorem sllo {xs:List D} {k:Nat} {H:HD}:slD (.tup xs) (some (k:Int)) none H=some (.tup (xs.drop k),H):=by
 rw[<- Zxu]; rfl
theorem adT {xs ys:List D} {H:HD} (h:xs.length+ys.length<=1000000):Zb0 (.tup xs) (.tup ys) H=some (.tup (xs++ys),H) :=
 if_pos (Zfg (by rw[Xl]; exact h))
theorem adI (i j:Int) (H:HD):Zb0 (.int i) (.int j) H=some (.int (i+j),H):=rfl
theorem suI (i j:Int) (H:HD):Zll (.int i) (.int j) H=some (.int (i - j),H):=by simp[Zll,iiD,CT]
theorem ExtS.app {S:List Nat} {H:HD} (L:HD):ExtS S H (H++L):=⟨fun m o _ q=>by
 have:m<H.length:=(Xc.mp q).1
 rw[Xg this]; exact q,by simp⟩
nonrec def Zay (ls:List Int):D:=.tup (ls.map .int)
theorem orF {t u:TF} {σ:SD} {H H1:HD} (h:t σ H=some (false,H1)):Zlm t u σ H=u σ H1:=by unfold Zlm; rw[h]; rfl
theorem orT {t u:TF} {σ:SD} {H H1:HD} (h:t σ H=some (true,H1)):Zlm t u σ H=some (true,H1):=by unfold Zlm; rw[h]; rfl
theorem anF {t u:TF} {σ:SD} {H H1:HD} (h:t σ H=some (false,H1)):tAn t u σ H=some (false,H1):=by unfold tAn; rw[h]; rfl
theorem anT {t u:TF} {σ:SD} {H H1:HD} (h:t σ H=some (true,H1)):tAn t u σ H=u σ H1:=by unfold tAn; rw[h]; rfl
theorem Zx9:∀ bs:List Bool,(!(bs.map PyData.bool).any fun z=>Ub z (.bool false))=bs.all id
 | []=>rfl
 | b::r=>by
  have ih:=Zx9 r
  rw[Xq,Wcx,Bool.not_or,ih,Wcu]
  cases b<;>simp[Ub]
theorem Yco {H:HD} {p:Nat} {bs:List Bool} (h:H[p]? = some (.lst (bs.map .bl))):Yax [.ref p] H=some (.bl (bs.all id),H):=by
 simp[Yax,h,Zvy]
end LH
namespace WP
open PySem L2 DL LH
def wE (r:Option (D×HD)) (Q:D->HD->Prop):Prop:=∃ d H,r=some (d,H)/\Q d H
def wT (r:Option (Bool×HD)) (Q:Bool->HD->Prop):Prop:=∃ d H,r=some (d,H)/\Q d H
def wA (r:Option (List D×HD)) (Q:List D->HD->Prop):Prop:=∃ d H,r=some (d,H)/\Q d H
def wO (r:Option (Option Int×HD)) (Q:Option Int->HD->Prop):Prop:=∃ d H,r=some (d,H)/\Q d H
def wI (r:Option ((List D×Zgc)×HD)) (Q:List D->Zgc->HD->Prop):Prop:=∃ d o H,r=some ((d,o),H)/\Q d o H
def wG (r:Option (SD×HD)) (Q:SD->HD->Prop):Prop:=∃ d H,r=some (d,H)/\Q d H
def wH (r:Option HD) (Q:HD->Prop):Prop:=∃ H,r=some H/\Q H
def wS (r:Option (FD×SD×HD)) (Q:FD->SD->HD->Prop):Prop:=∃ x d H,r=some (x,d,H)/\Q x d H
def wN (n:Nat) (F:FF) (ds:List D) (H:HD) (Q:D->HD->Prop):Prop:=ds.length=n/\wE (F ds H) Q
def br (b:Bool) (P Q:Prop):Prop:=(b=true->P)/\(b=false->Q)
nonrec def Zz3 (k:SD->HD->Prop) (Q:FD->SD->HD->Prop):FD->SD->HD->Prop
 | .nx,σ,H=>k σ H
 | r,σ,H=>Q r σ H
nonrec def fin (Q:D->HD->Prop):FD->SD->HD->Prop
 | .rt d,_,H=>Q d H
 | .nx,_,H=>Q .non H
 | _,_,_=>False
section
variable {σ:SD} {H:HD} {Q:D->HD->Prop}
theorem wE_of {r:Option (D×HD)} {d:D} {H:HD} (e:r=some (d,H)) (q:Q d H):wE r Q:=⟨d,H,e,q⟩
theorem wS_of {Q:FD->SD->HD->Prop} {r:Option (FD×SD×HD)} {x:FD} {d:SD} {H:HD} (e:r=some (x,d,H)) (q:Q x d H):wS r Q:=⟨x,d,H,e,q⟩
theorem w_var {i:Nat} {d:D} (h:(σ[i]?).join=some d) (q:Q d H):wE (Zac i σ H) Q:=⟨d,H,by unfold Zac; rw[h]; rfl,q⟩
theorem w_c {d:D} (q:Q d H):wE (eC d σ H) Q:=⟨d,H,rfl,q⟩
theorem w_op {g:F2} {fa fb:EF} (h:wE (fa σ H) fun x H1=>wE (fb σ H1) fun y H2=>wE (g x y H2) Q):wE (eOp g fa fb σ H) Q:=by
 obtain⟨x,H1,e1,y,H2,e2,d,H3,e3,q⟩:=h
 exact⟨d,H3,op e1 e2 e3,q⟩
theorem w_un {g:D->HD->Option (D×HD)} {fa:EF} (h:wE (fa σ H) fun x H1=>wE (g x H1) Q):wE (eUn g fa σ H) Q:=by
 obtain⟨x,H1,e1,d,H3,e3,q⟩:=h
 exact⟨d,H3,by unfold eUn; rw[e1]; exact e3,q⟩
theorem w_ch {g g':F2} {fa fb fc:EF} (h:wE (fa σ H) fun x H1=>wE (fb σ H1) fun y H2=>wE (g x y H2) fun z H3=>∃ k,z=.bl k/\br k (wE (fc σ H3) fun w H4=>wE (g' y w H4) Q) (Q (.bl false) H3)):wE (eCh g g' fa fb fc σ H) Q:=by
 obtain⟨x,H1,e1,y,H2,e2,z,H3,e3,k,rfl,b1,b2⟩:=h
 unfold eCh
 rw[e1]; simp only[Zb]; rw[e2]; simp only[Zb]; rw[e3]; simp only[Zb,blD]
 cases k with
 | true =>
  obtain⟨w,H4,e4,d,H5,e5,q⟩:=b1 rfl
  exact⟨d,H5,by rw[if_pos rfl,e4]; exact e5,q⟩
 | false=>exact⟨.bl false,H3,by rw[if_neg (by simp)],b2 rfl⟩
theorem w_tof {f:EF} {Q:Bool->HD->Prop} (h:wE (f σ H) fun d H1=>∃ b,d=.bl b/\Q b H1):wT (tOf f σ H) Q:=by
 obtain⟨d,H1,e,b,rfl,q⟩:=h
 exact⟨b,H1,tof e,q⟩
theorem w_bl {b:Bool} {P:Bool->Prop} (h:P b):∃ c,D.bl b=.bl c/\P c:=⟨b,rfl,h⟩
theorem w_ttru {f:EF} {Q:Bool->HD->Prop} (h:wE (f σ H) fun d H1=>∃ b,Zuv d H1=some b/\Q b H1):wT (Zg7 f σ H) Q:=by
 obtain⟨d,H1,e,b,e2,q⟩:=h
 exact⟨b,H1,by unfold Zg7; rw[e]; simp only[Zb]; rw[e2]; rfl,q⟩
theorem w_no {t:TF} {Q:Bool->HD->Prop} (h:wT (t σ H) fun b H1=>Q (!b) H1):wT (tNo t σ H) Q:=by
 obtain⟨b,H1,e,q⟩:=h
 exact⟨!b,H1,by unfold tNo; rw[e]; rfl,q⟩
theorem w_an {t u:TF} {Q:Bool->HD->Prop} (h:wT (t σ H) fun b H1=>br b (wT (u σ H1) Q) (Q false H1)):wT (tAn t u σ H) Q:=by
 obtain⟨b,H1,e,q1,q2⟩:=h
 cases b with
 | true=>obtain⟨c,H2,e2,q⟩:=q1 rfl; exact⟨c,H2,(anT e).trans e2,q⟩
 | false=>exact⟨false,H1,anF e,q2 rfl⟩
theorem w_or {t u:TF} {Q:Bool->HD->Prop} (h:wT (t σ H) fun b H1=>br b (Q true H1) (wT (u σ H1) Q)):wT (Zlm t u σ H) Q:=by
 obtain⟨b,H1,e,q1,q2⟩:=h
 cases b with
 | true=>exact⟨true,H1,orT e,q1 rfl⟩
 | false=>obtain⟨c,H2,e2,q⟩:=q2 rfl; exact⟨c,H2,(orF e).trans e2,q⟩
theorem w_eno {f:EF} (h:wE (f σ H) fun d H1=>∃ b,d=.bl b/\Q (.bl (!b)) H1):wE (eNo f σ H) Q:=by
 obtain⟨d,H1,e,b,rfl,q⟩:=h
 exact⟨.bl (!b),H1,by unfold eNo; rw[e]; rfl,q⟩
theorem w_ean {f g:EF} (h:wE (f σ H) fun d H1=>∃ b,d=.bl b/\br b (wE (g σ H1) Q) (Q (.bl false) H1)):wE (eAn f g σ H) Q:=by
 obtain⟨d,H1,e,b,rfl,q1,q2⟩:=h
 unfold eAn
 rw[e]; simp only[Zb,blD]
 cases b with
 | true=>rw[if_pos rfl]; exact q1 rfl
 | false=>rw[if_neg (by simp)]; exact⟨_,_,rfl,q2 rfl⟩
theorem w_anil {Q:List D->HD->Prop} (q:Q [] H):wA (Zaf σ H) Q:=⟨[],H,rfl,q⟩
theorem w_acons {f:EF} {g:AF} {Q:List D->HD->Prop} (h:wE (f σ H) fun d H1=>wA (g σ H1) fun ds H2=>Q (d::ds) H2):wA (Zab f g σ H) Q:=by
 obtain⟨d,H1,e1,ds,H2,e2,q⟩:=h
 exact⟨d::ds,H2,ac e1 e2,q⟩
theorem w_cb {g:FF} {f:AF} (h:wA (f σ H) fun ds H1=>wE (g ds H1) Q):wE (eCB g f σ H) Q:=by
 obtain⟨ds,H1,e1,d,H2,e2,q⟩:=h
 exact⟨d,H2,cb e1 e2,q⟩
theorem w_call {n:Nat} {F:FF} {f:AF} (h:wA (f σ H) fun ds H1=>wN n F ds H1 Q):wE (Zal n F f σ H) Q:=by
 obtain⟨ds,H1,e1,hl,d,H2,e2,q⟩:=h
 exact⟨d,H2,ca e1 hl e2,q⟩
theorem w_n {n:Nat} {F:FF} {ds:List D} (hl:ds.length=n) (h:wE (F ds H) Q):wN n F ds H Q:=⟨hl,h⟩
theorem w_tup {f:AF} (h:wA (f σ H) fun ds H1=>ds.length<=1000000/\Q (.tup ds) H1):wE (Zdi f σ H) Q:=by
 obtain⟨ds,H1,e1,hl,q⟩:=h
 exact⟨_,H1,tp e1 hl,q⟩
theorem w_lst {f:AF} (h:wA (f σ H) fun ds H1=>ds.length<=1000000/\Q (.ref H1.length) (H1++[.lst ds])):wE (Zd3 f σ H) Q:=by
 obtain⟨ds,H1,e1,hl,q⟩:=h
 exact⟨_,_,ls e1 hl,q⟩
theorem w_lm {g:D->List D->HD->Option (D×HD)} {fo:EF} {f:AF} (h:wE (fo σ H) fun o H1=>Znz o H1=true/\wA (f σ H1) fun ds H2=>wE (g o ds H2) Q):wE (eLM g fo f σ H) Q:=by
 obtain⟨o,H1,e1,i,ds,H2,e2,d,H3,e3,q⟩:=h
 exact⟨d,H3,by unfold eLM; rw[e1]; simp only[Zb]; rw[if_pos i,e2]; exact e3,q⟩
theorem w_dn (q:Q (.ref H.length) (H++[.dic [] false])):wE (eDN σ H) Q:=⟨_,_,rfl,q⟩
theorem w_on {Q:Option Int->HD->Prop} (q:Q none H):wO (Zfy σ H) Q:=⟨none,H,rfl,q⟩
theorem w_os {f:EF} {Q:Option Int->HD->Prop} (h:wE (f σ H) fun d H1=>∃ i,d=.int i/\Q (some i) H1):wO (Ze2 f σ H) Q:=by
 obtain⟨d,H1,e,i,rfl,q⟩:=h
 exact⟨some i,H1,os e,q⟩
theorem w_int {i:Int} {P:Int->Prop} (h:P i):∃ c,D.int i=.int c/\P c:=⟨i,rfl,h⟩
theorem w_sl {fe:EF} {fl fh:OF} (h:wE (fe σ H) fun x H1=>wO (fl σ H1) fun l H2=>wO (fh σ H2) fun u H3=>wE (slD x l u H3) Q):wE (eSl fe fl fh σ H) Q:=by
 obtain⟨x,H1,e1,l,H2,e2,u,H3,e3,d,H4,e4,q⟩:=h
 exact⟨d,H4,sl e1 e2 e3 e4,q⟩
variable {R:FD->SD->HD->Prop}
theorem w_snil (q:R .nx σ H):wS (Zak σ H) R:=⟨_,_,_,rfl,q⟩
theorem w_seq {f g:SF} (h:wS (f σ H) (Zz3 (fun σ1 H1=>wS (g σ1 H1) R) R)):wS (Zag f g σ H) R:=by
 obtain⟨x,σ1,H1,e,k⟩:=h
 unfold Zag
 rw[e]; simp only[Zb]
 cases x with
 | nx=>exact k
 | bk=>exact⟨_,_,_,rfl,k⟩
 | ct=>exact⟨_,_,_,rfl,k⟩
 | rt d=>exact⟨_,_,_,rfl,k⟩
theorem w_kn {k:SD->HD->Prop} (h:k σ H):Zz3 k R .nx σ H:=h
theorem w_kr {k:SD->HD->Prop} {d:D} (h:R (.rt d) σ H):Zz3 k R (.rt d) σ H:=h
theorem Zsp {r:Option (FD×SD×HD)} {k:SD->HD->Prop} (J:SD->HD->Prop) (h:wS r fun x σ H=>x=.nx/\J σ H) (q:∀ σ H,J σ H->k σ H):wS r (Zz3 k R):=by
 obtain⟨x,s,H,e,rfl,j⟩:=h
 exact⟨_,s,H,e,q s H j⟩
theorem w_fr {d:D} (h:Q d H):fin Q (.rt d) σ H:=h
theorem w_fn (h:Q .non H):fin Q .nx σ H:=h
theorem w_ret {f:EF} (h:wE (f σ H) fun d H1=>R (.rt d) σ H1):wS (Zbl f σ H) R:=by
 obtain⟨d,H1,e,q⟩:=h; exact⟨_,_,_,rt e,q⟩
theorem w_retn (h:R (.rt .non) σ H):wS (Zz9 σ H) R:=⟨_,_,_,rfl,h⟩
theorem w_expr {f:EF} (h:wE (f σ H) fun d H1=>R .nx σ H1):wS (Zcj f σ H) R:=by
 obtain⟨d,H1,e,q⟩:=h; exact⟨_,_,_,by unfold Zcj; rw[e]; rfl,q⟩
theorem w_if {t:TF} {f g:SF} (h:wT (t σ H) fun b H1=>br b (wS (f σ H1) R) (wS (g σ H1) R)):wS (sIf t f g σ H) R:=by
 obtain⟨b,H1,e,q1,q2⟩:=h
 rw[Znc e]
 cases b with
 | true=>rw[if_pos rfl]; exact q1 rfl
 | false=>rw[if_neg (by simp)]; exact q2 rfl
theorem w_set {i:Nat} {f:EF} (h:wE (f σ H) fun d H1=>R .nx (σ.set i (some d)) H1):wS (Zbg i f σ H) R:=by
 obtain⟨d,H1,e,q⟩:=h; exact⟨_,_,_,by unfold Zbg; rw[e]; rfl,q⟩
theorem w_asg {f:EF} {g:GF} (h:wE (f σ H) fun d H1=>wG (g d σ H1) fun σ2 H2=>R .nx σ2 H2):wS (Zvj f g σ H) R:=by
 obtain⟨d,H1,e,σ2,H2,e2,q⟩:=h; exact⟨_,_,_,by unfold Zvj; rw[e]; simp only[Zb]; rw[e2]; rfl,q⟩
theorem w_gnm {i:Nat} {d:D} {Q:SD->HD->Prop} (h:Q (σ.set i (some d)) H):wG (gNm i d σ H) Q:=⟨_,_,rfl,h⟩
theorem w_gsb {fo fi:EF} {g:Zym} {d:D} {Q:SD->HD->Prop} (h:wE (fo σ H) fun o H1=>wE (fi σ H1) fun i H2=>wH (g o i d H2) fun H3=>Q σ H3):wG (gSb fo fi g d σ H) Q:=by
 obtain⟨o,H1,e1,i,H2,e2,H3,e3,q⟩:=h
 exact⟨σ,H3,by unfold gSb; rw[e1]; simp only[Zb]; rw[e2]; simp only[Zb]; rw[e3]; rfl,q⟩
theorem w_gtp {n:Nat} {g:GFs} {ds:List D} {Q:SD->HD->Prop} (hl:ds.length=n) (h:wG (g ds σ H) Q):wG (gTp n g (.tup ds) σ H) Q:=by
 obtain⟨s,H1,e,q⟩:=h
 exact⟨s,H1,by unfold gTp; simp only[if_pos hl]; exact e,q⟩
theorem w_gnl {Q:SD->HD->Prop} (h:Q σ H):wG (gNl [] σ H) Q:=⟨_,_,rfl,h⟩
theorem w_gcn {g:GF} {h:GFs} {d:D} {r:List D} {Q:SD->HD->Prop} (q:wG (g d σ H) fun σ1 H1=>wG (h r σ1 H1) Q):wG (gCn g h (d::r) σ H) Q:=by
 obtain⟨s,H1,e,s2,H2,e2,q⟩:=q
 exact⟨s2,H2,by unfold gCn; simp only; rw[e]; exact e2,q⟩
theorem w_for {it:ItF} {g:GF} {b:SF} (h:wI (it σ H) fun xs own H1=>wS (Zfr own g b xs σ H1) R):wS (Zew it g b σ H) R:=by
 obtain⟨xs,own,H1,e,q⟩:=h
 unfold Zew; rw[e]; exact q
theorem Zbf {n N:Nat} {b:SF} {ds:List D} (hl:ds.length=n) (h:wS (b (ds.map some++Xs (N - ds.length) none) H) (fin Q)):wE (Zbd n N b ds H) Q:=by
 obtain⟨x,s,H1,e,q⟩:=h
 unfold Zbd
 rw[if_pos hl,e]
 simp only[Zb]
 cases x with
 | nx=>exact⟨_,_,rfl,q⟩
 | rt d=>exact⟨_,_,rfl,q⟩
 | bk=>exact q.elim
 | ct=>exact q.elim
theorem w_lc {it:ItF} {ci:List Nat} {tt:TF} {te:EF} (h:wI (it σ H) fun xs own H1=>wA (Zee own (Zuo ci σ) tt te xs H1) fun ds H2=>ds.length<=1000000/\Q (.ref H2.length) (H2++[.lst ds])):wE (eLC it ci tt te σ H) Q:=by
 obtain⟨xs,own,H1,e,ds,H2,e2,hl,q⟩:=h
 exact⟨_,_,by unfold eLC; rw[e]; simp only[Zb]; rw[e2]; exact if_pos (Zfg hl),q⟩
theorem w_bt {P S:Prop} (h:P):br true P S:=⟨fun _=>h,nofun⟩
theorem w_bf {P S:Prop} (h:S):br false P S:=⟨nofun,fun _=>h⟩
theorem w_bnt {P S:Prop} (h:P):br (!false) P S:=⟨fun _=>h,nofun⟩
theorem w_bnf {P S:Prop} (h:S):br (!true) P S:=⟨nofun,fun _=>h⟩
theorem w_bT {b:Bool} {P S:Prop} (e:b=true) (h:P):br b P S:=by subst e; exact w_bt h
theorem w_bF {b:Bool} {P S:Prop} (e:b=false) (h:S):br b P S:=by subst e; exact w_bf h
theorem w_sz {ds:List D} {P:Prop} (h:ds.length<=1000000) (q:P):ds.length<=1000000/\P:=⟨h,q⟩
theorem w_addI {i j:Int} (q:Q (.int (i+j)) H):wE (Zb0 (.int i) (.int j) H) Q:=⟨_,_,rfl,q⟩
theorem w_addT {a b:List D} (h:a.length+b.length<=1000000) (q:Q (.tup (a++b)) H):wE (Zb0 (.tup a) (.tup b) H) Q:=⟨_,_,adT h,q⟩
theorem w_subI {i j:Int} (q:Q (.int (i - j)) H):wE (Zll (.int i) (.int j) H) Q:=⟨_,_,suI i j H,q⟩
theorem w_lt {i j:Int} (q:Q (.bl (decide (i<j))) H):wE (ltD (.int i) (.int j) H) Q:=⟨_,_,by simp[ltD,iiD,CT],q⟩
theorem w_le {i j:Int} (q:Q (.bl (decide (i<=j))) H):wE (leD (.int i) (.int j) H) Q:=⟨_,_,by simp[leD,iiD,CT],q⟩
theorem w_gt {i j:Int} (q:Q (.bl (decide (j<i))) H):wE (gtD (.int i) (.int j) H) Q:=⟨_,_,by simp[gtD,iiD,CT],q⟩
theorem w_ge {i j:Int} (q:Q (.bl (decide (j<=i))) H):wE (geD (.int i) (.int j) H) Q:=⟨_,_,by simp[geD,iiD,CT],q⟩
theorem w_mod {i j:Int} (h:0<j) (q:Q (.int (i % j)) H):wE (Zfm (.int i) (.int j) H) Q:=⟨_,_,by have c:Yb4 i j:=h; simp[Zfm,iiD,c],q⟩
theorem w_fdiv {i j:Int} (h:0<j) (h2:j<1073741824) (q:Q (.int (i / j)) H):wE (Zq5 (.int i) (.int j) H) Q:=⟨_,_,by have c:Yc0 i j:=⟨h,h2⟩; simp[Zq5,iiD,c],q⟩
theorem w_mulL {i j:Int} (h1 : -(2 ^ 64)<i) (h2:i<2 ^ 64) (q:Q (.int (i*j)) H):wE (Zp7 (.int i) (.int j) H) Q:=⟨_,_,by have c:Zye i j:=.inl ⟨h1,h2⟩; simp[Zp7,c],q⟩
theorem w_mulR {i j:Int} (h1 : -(2 ^ 64)<j) (h2:j<2 ^ 64) (q:Q (.int (i*j)) H):wE (Zp7 (.int i) (.int j) H) Q:=⟨_,_,by have c:Zye i j:=.inr ⟨h1,h2⟩; simp[Zp7,c],q⟩
theorem Zy6 {i j:Int} (h1:0<=j) (h2:j<=1000000) (h3:i.natAbs<2 ^ 64) (q:Q (.int (i ^ j.toNat)) H):wE (Yat (.int i) (.int j) H) Q:=⟨_,_,by have c:Yc8 i j:=⟨h1,h2,h3⟩; simp[Yat,iiD,c],q⟩
theorem w_neg {i:Int} (q:Q (.int (-i)) H):wE (Zjv (.int i) H) Q:=⟨_,_,rfl,q⟩
theorem w_eqI {i j:Int} (q:Q (.bl (i==j)) H):wE (eqD (.int i) (.int j) H) Q:=⟨_,_,Zs2 _ _ _,q⟩
theorem w_eqS {a b:Str} (q:Q (.bl (a==b)) H):wE (eqD (.str a) (.str b) H) Q:=⟨_,_,rfl,q⟩
theorem w_neS {a b:Str} (q:Q (.bl (a != b)) H):wE (neD (.str a) (.str b) H) Q:=⟨_,_,rfl,q⟩
theorem w_lenT {xs:List D} (q:Q (.int xs.length) H):wE (Zct [.tup xs] H) Q:=⟨_,_,lenT xs H,q⟩
theorem w_lenR {n:Nat} {xs:List D} (h:H[n]? = some (.lst xs)) (q:Q (.int xs.length) H):wE (Zct [.ref n] H) Q:=⟨_,_,by simp[Zct,Zm0,h],q⟩
theorem w_lenF {xs:List D} (q:Q (.int xs.length) H):wE (Zct [.fl xs] H) Q:=⟨_,_,by simp[Zct,Zm0],q⟩
theorem w_abs {i:Int} (q:Q (.int (Zas i)) H):wE (Zws [.int i] H) Q:=⟨_,_,rfl,q⟩
theorem w_ixT {xs:List D} {i:Int} {d:D} (h:atI xs i=some d) (q:Q d H):wE (ixD (.tup xs) (.int i) H) Q:=⟨_,_,ixT h,q⟩
theorem w_ixR {n:Nat} {xs:List D} {i:Int} {d:D} (g:H[n]? = some (.lst xs)) (h:atI xs i=some d) (q:Q d H):wE (ixD (.ref n) (.int i) H) Q:=⟨_,_,by simp[ixD,Zm0,g,h],q⟩
theorem w_ixF {xs:List D} {i:Int} {d:D} (h:atI xs i=some d) (q:Q d H):wE (ixD (.fl xs) (.int i) H) Q:=⟨_,_,by simp[ixD,Zm0,h],q⟩
theorem w_intB {b:Bool} (q:Q (.int (if b then 1 else 0)) H):wE (Zrn [.bl b] H) Q:=⟨_,_,rfl,q⟩
theorem w_max {i j:Int} (q:Q (.int (if j > i then j else i)) H):wE (Ycp [.int i,.int j] H) Q:=⟨_,_,rfl,q⟩
theorem w_tupR {n:Nat} {xs:List D} (h:H[n]? = some (.lst xs)) (q:Q (.tup xs) H):wE (Zd7 [.ref n] H) Q:=⟨_,_,tu h,q⟩
theorem Zhf {n:Nat} {xs:List D} {d:D} (h:H[n]? = some (.lst xs)) (hl:xs.length<1000000) (q:Q .non (H.set n (.lst (xs++[d])))):wE (Zb1 (.ref n) [d] H) Q :=
 ⟨_,_,by simp[Zb1,h,Xj hl (Zfg (Xd _))],q⟩
theorem w_isi {d:D} {c t:String} (ha:Ztl c=true) (h:tyD d H=some t) (q:Q (.bl (t==c||(t == "bool" && c == "int"))) H):wE (Zrm [d,.ty c] H) Q:=⟨_,_,by simp[Zrm,ha,h],q⟩
theorem w_isN {d:D} {b:Bool} (h:isB d .non=some b) (q:Q (.bl b) H):wE (isD d .non H) Q:=⟨_,_,by simp[isD,h],q⟩
theorem w_isnN {d:D} {b:Bool} (h:isB d .non=some b) (q:Q (.bl (!b)) H):wE (Yav d .non H) Q:=⟨_,_,by simp[Yav,h],q⟩
theorem Ydu {n:Nat} {kvs:List (D×D)} {fz:Bool} (h:H[n]? = some (.dic kvs fz)) (q:Q (.int kvs.length) H):wE (Zkn [.ref n] H) Q:=⟨_,_,by simp[Zkn,Zvi,h],q⟩
theorem Zyh {n:Nat} {kvs:List (D×D)} {fz:Bool} {k:D} {ks:List Int} {v:D} (h:H[n]? = some (.dic kvs fz)) (hk:nk k=some ks) (hv:Zbh kvs ks=some v) (q:Q v H):wE (Ze1 (.ref n) k H) Q:=⟨_,_,by simp[Ze1,Zvi,h,hk,hv],q⟩
theorem w_truB {b:Bool} {P:Bool->Prop} (h:P b):∃ c,Zuv (.bl b) H=some c/\P c:=⟨b,rfl,h⟩
theorem w_isi' {d:D} {c t:String} {r:Bool} (ha:Ztl c=true) (h:tyD d H=some t) (hr:(t==c||(t == "bool" && c == "int"))=r) (q:Q (.bl r) H):wE (Zrm [d,.ty c] H) Q:=w_isi ha h (by rw[hr]; exact q)
theorem w_eqS' {a b:Str} {r:Bool} (hr:(a==b)=r) (q:Q (.bl r) H):wE (eqD (.str a) (.str b) H) Q:=w_eqS (by rw[hr]; exact q)
theorem w_neS' {a b:Str} {r:Bool} (hr:(a==b)=r) (q:Q (.bl (!r)) H):wE (neD (.str a) (.str b) H) Q:=w_neS (by rw[bne,hr]; exact q)
theorem w_eqI' {a b:Int} {r:Bool} (hr:(a==b)=r) (q:Q (.bl r) H):wE (eqD (.int a) (.int b) H) Q:=w_eqI (by rw[hr]; exact q)
theorem w_slhi {xs:List D} {k:Nat} (q:Q (.tup (xs.take k)) H):wE (slD (.tup xs) none (some (k:Int)) H) Q:=⟨_,_,slhi,q⟩
theorem w_sllo {xs:List D} {k:Nat} (q:Q (.tup (xs.drop k)) H):wE (slD (.tup xs) (some (k:Int)) none H) Q:=⟨_,_,sllo,q⟩
variable {I:List D->Zgc->HD->Prop}
theorem w_isq {f:EF} (h:wE (f σ H) fun d H1=>∃ xs own,Zi0 d H1=some (xs,own)/\I xs own H1):wI (iSq f σ H) I:=by
 obtain⟨d,H1,e,xs,own,e2,q⟩:=h
 exact⟨xs,own,H1,by unfold iSq; rw[e]; simp only[Zb]; rw[e2]; rfl,q⟩
theorem w_itT {xs:List D} {P:List D->Zgc->Prop} (h:P xs []):∃ ys own,Zi0 (.tup xs) H=some (ys,own)/\P ys own:=⟨_,_,rfl,h⟩
theorem w_itR {n:Nat} {xs:List D} {P:List D->Zgc->Prop} (g:H[n]? = some (.lst xs)) (h:P xs [(n,.lst xs)]):∃ ys own,Zi0 (.ref n) H=some (ys,own)/\P ys own:=⟨_,_,by simp[Zi0,g],h⟩
theorem w_ir1 {f:AF} (h:wA (f σ H) fun ds H1=>∃ j,ds=[.int j]/\Zmt j/\I (Zba 0 j.toNat) [] H1):wI (iR1 f σ H) I:=by
 obtain⟨ds,H1,e,j,rfl,s,q⟩:=h
 exact⟨_,_,H1,by unfold iR1; rw[e]; exact if_pos s,q⟩
theorem w_idic {f:EF} (h:wE (f σ H) fun d H1=>∃ n kvs fz,d=.ref n/\H1[n]? = some (.dic kvs fz)/\I (kvs.map (·.1)) [(n,.dic kvs true)] (H1.set n (.dic kvs true))):wI (Zyo f σ H) I:=by
 obtain⟨d,H1,e,n,kvs,fz,rfl,g,q⟩:=h
 exact⟨_,_,_,by unfold Zyo; rw[e]; simp only[Zb,g],q⟩
theorem w_enum {f:AF} (h:wA (f σ H) fun ds H1=>∃ xs,ds=[.tup xs]/\I (Zcs 0 xs) [] H1):wI (Znu f σ H) I:=by
 obtain⟨ds,H1,e,xs,rfl,q⟩:=h
 exact⟨_,_,H1,by unfold Znu; rw[e]; rfl,q⟩
theorem w_zip {f:AF} (h:wA (f σ H) fun ds H1=>∃ d1 d2 a b,ds=[d1,d2]/\Zxs d1 H1=some a/\Zxs d2 H1=some b/\I (Zrl a.1 b.1) (a.2++b.2) H1):wI (Zwr f σ H) I:=by
 obtain⟨ds,H1,e,d1,d2,a,b,rfl,e1,e2,q⟩:=h
 exact⟨_,_,H1,by unfold Zwr; rw[e]; simp only[Zb]; rw[e1]; simp only[Zb]; rw[e2]; rfl,q⟩
theorem Zl8 {own:Zgc} {g:GF} {b:SF} (h:Zb7 own H) (q:R .nx σ H):wS (Zfr own g b [] σ H) R:=⟨_,_,_,by rw[Zfr,if_pos h],q⟩
nonrec def again (k:SD->HD->Prop) (R:FD->SD->HD->Prop):FD->SD->HD->Prop
 | .nx,σ,H=>k σ H
 | .ct,σ,H=>k σ H
 | .bk,σ,H=>R .nx σ H
 | .rt d,σ,H=>R (.rt d) σ H
theorem Ze4 {own:Zgc} {g:GF} {b:SF} {x:D} {r:List D} (h:Zb7 own H) (q:wG (g x σ H) fun σ1 H1=>wS (b σ1 H1) (again (fun σ2 H2=>wS (Zfr own g b r σ2 H2) R) R)):wS (Zfr own g b (x::r) σ H) R:=by
 obtain⟨σ1,H1,e1,y,σ2,H2,e2,q⟩:=q
 rw[Zfr,if_pos h,e1]
 simp only[Zb]
 rw[e2]
 cases y with
 | nx=>exact q
 | ct=>exact q
 | bk=>exact⟨_,_,_,rfl,q⟩
 | rt d=>exact⟨_,_,_,rfl,q⟩
theorem w_agn {k:SD->HD->Prop} (h:k σ H):again k R .nx σ H:=h
theorem w_agr {k:SD->HD->Prop} {d:D} (h:R (.rt d) σ H):again k R (.rt d) σ H:=h
theorem Zc6 {own:Zgc} {g:GF} {b:SF} (Inv:List D->List D->SD->HD->Prop) (ho:∀ d t σ H,Inv d t σ H->Zb7 own H)
  (st:∀ d x t σ H,Inv d (x::t) σ H->wG (g x σ H) fun σ1 H1=>wS (b σ1 H1) (again (fun σ2 H2=>Inv (d++[x]) t σ2 H2) R))
  (q:∀ d σ H,Inv d [] σ H->R .nx σ H):∀ (t d:List D) (σ:SD) (H:HD),Inv d t σ H->wS (Zfr own g b t σ H) R
 | [],d,σ,H,i=>Zl8 (ho _ _ _ _ i) (q d σ H i)
 | x::t,d,σ,H,i=>by
  refine Ze4 (ho _ _ _ _ i) ?_
  obtain⟨σ1,H1,e1,y,σ2,H2,e2,k⟩:=st d x t σ H i
  refine⟨σ1,H1,e1,y,σ2,H2,e2,?_⟩
  cases y with
  | nx=>exact Zc6 Inv ho st q t _ σ2 H2 k
  | ct=>exact Zc6 Inv ho st q t _ σ2 H2 k
  | bk=>exact k
  | rt d=>exact k
theorem Zi5 {own:Zgc} {g:GF} {b:SF} (Inv:SD->HD->Prop) (ho:∀ σ H,Inv σ H->Zb7 own H):∀ (xs:List D) (st:∀ x∈xs,∀ σ H,Inv σ H->wG (g x σ H) fun σ1 H1=>wS (b σ1 H1) (again Inv R)) (σ:SD) (H:HD),Inv σ H->(∀ σ H,Inv σ H->R .nx σ H)->wS (Zfr own g b xs σ H) R
 | [],st,σ,H,i,q=>Zl8 (ho _ _ i) (q σ H i)
 | x::t,st,σ,H,i,q=>by
  refine Ze4 (ho _ _ i) ?_
  obtain⟨σ1,H1,e1,y,σ2,H2,e2,k⟩:=st x (by simp) σ H i
  refine⟨σ1,H1,e1,y,σ2,H2,e2,?_⟩
  cases y with
  | nx=>exact Zi5 Inv ho t (fun z hz=>st z (by simp[hz])) σ2 H2 k q
  | ct=>exact Zi5 Inv ho t (fun z hz=>st z (by simp[hz])) σ2 H2 k q
  | bk=>exact k
  | rt d=>exact k
theorem w_wh {t:TF} {b:SF} {n:Nat} (h:wT (t σ H) fun x H1=>br x (wS (b σ H1) (again (fun σ2 H2=>wS (sWh t b n σ2 H2) R) R)) (R .nx σ H1)):wS (sWh t b (n+1) σ H) R:=by
 obtain⟨x,H1,e,q1,q2⟩:=h
 rw[sWh]
 dsimp only
 rw[e]
 simp only[Zb]
 cases x with
 | true =>
  rw[if_pos rfl]
  obtain⟨y,σ2,H2,e2,q⟩:=q1 rfl
  rw[e2]
  cases y with
  | nx=>exact q
  | ct=>exact q
  | bk=>exact⟨_,_,_,rfl,q⟩
  | rt d=>exact⟨_,_,_,rfl,q⟩
 | false=>rw[if_neg (by simp)]; exact⟨_,_,_,rfl,q2 rfl⟩
theorem Zob {t:TF} {b:SF} (Inv:Nat->SD->HD->Prop) (st:∀ m σ H,Inv m σ H->wT (t σ H) fun x H1=>br x (∃ m',m=m'+1/\wS (b σ H1) (again (Inv m') R)) (R .nx σ H1)):∀ (n m:Nat) (σ:SD) (H:HD),m<n->Inv m σ H->wS (sWh t b n σ H) R
 | 0,m,σ,H,h,i=>by omega
 | n+1,m,σ,H,h,i=>by
  refine w_wh ?_
  obtain⟨x,H1,e,q1,q2⟩:=st m σ H i
  refine⟨x,H1,e,fun hx=>?_,q2⟩
  obtain⟨m',rfl,y,σ2,H2,e2,q⟩:=q1 hx
  refine⟨y,σ2,H2,e2,?_⟩
  cases y with
  | nx=>exact Zob Inv st n m' σ2 H2 (by omega) q
  | ct=>exact Zob Inv st n m' σ2 H2 (by omega) q
  | bk=>exact q
  | rt d=>exact q
theorem Znd {own:Zgc} {c0:SD} {tt:TF} {te:EF} {Q:List D->HD->Prop} (h:Zb7 own H) (q:Q [] H):wA (Zee own c0 tt te [] H) Q:=⟨_,_,by rw[Zee,if_pos h],q⟩
theorem Zjd {own:Zgc} {c0:SD} {tt:TF} {te:EF} {x:D} {r:List D} {Q:List D->HD->Prop} (h:Zb7 own H)
  (q:wT (tt (some x::c0) H) fun b H1=>br b (wE (te (some x::c0) H1) fun e H2=>wA (Zee own c0 tt te r H2) fun es H3=>Q (e::es) H3) (wA (Zee own c0 tt te r H1) Q)):wA (Zee own c0 tt te (x::r) H) Q:=by
 obtain⟨b,H1,e1,q1,q2⟩:=q
 rw[Zee,if_pos h,e1]
 simp only[Zb]
 cases b with
 | true =>
  obtain⟨e,H2,e2,es,H3,e3,q⟩:=q1 rfl
  exact⟨e::es,H3,by rw[if_pos rfl,e2]; simp only[Zb]; rw[e3]; rfl,q⟩
 | false=>rw[if_neg (by simp)]; exact q2 rfl
theorem w_yes {Q:Bool->HD->Prop} (q:Q true H):wT (Zxp σ H) Q:=⟨_,_,rfl,q⟩
theorem Zs7 {own:Zgc} {c0:SD} {tt:TF} {te:EF} (Inv:List D->List D->List D->HD->Prop) (ho:∀ d t o H,Inv d t o H->Zb7 own H)
  (st:∀ d x t o H,Inv d (x::t) o H->wT (tt (some x::c0) H) fun b H1=>br b (wE (te (some x::c0) H1) fun e H2=>Inv (d++[x]) t (o++[e]) H2) (Inv (d++[x]) t o H1))
  {Q:List D->HD->Prop}:∀ (t d o:List D) (H:HD),Inv d t o H->(∀ d o' H',Inv d [] (o++o') H'->Q o' H')->wA (Zee own c0 tt te t H) Q
 | [],d,o,H,i,q=>Znd (ho _ _ _ _ i) (q d [] H (by rw[Waa]; exact i))
 | x::t,d,o,H,i,q=>by
  refine Zjd (ho _ _ _ _ i) ?_
  obtain⟨b,H1,e1,q1,q2⟩:=st d x t o H i
  refine⟨b,H1,e1,fun h=>?_,fun h=>?_⟩
  ·obtain⟨e,H2,e2,k⟩:=q1 h
   refine⟨e,H2,e2,?_⟩
   refine Zs7 Inv ho st t _ _ H2 k fun d' o' H' i'=>q d' (e::o') H' ?_
   rw[Xw] at i'; exact i'
  ·exact Zs7 Inv ho st t _ _ H1 (q2 h) fun d' o' H' i'=>q d' o' H' i'
theorem Zeh {own:Zgc} {c0:SD} {tt:TF} (f:D->Bool) (J:HD->Prop) (ho:∀ H,J H->Zb7 own H) {Q:List D->HD->Prop}:∀ (xs:List D) (st:∀ x∈xs,∀ H,J H->wT (tt (some x::c0) H) fun b H1=>b=f x/\J H1) (H:HD),J H->(∀ H',J H'->Q (xs.filter f) H')->wA (Zee own c0 tt (Zac 0) xs H) Q
 | [],st,H,j,q=>Znd (ho H j) (q H j)
 | x::xs,st,H,j,q=>by
  refine Zjd (ho H j) ?_
  obtain⟨b,H1,e,rfl,j1⟩:=st x (by simp) H j
  refine⟨_,H1,e,fun h=>?_,fun h=>?_⟩
  ·refine⟨x,H1,rfl,?_⟩
   refine Zeh f J ho xs (fun y hy=>st y (by simp[hy])) H1 j1 fun H' j'=>?_
   have:=q H' j'
   rwa [Wbq h] at this
  ·refine Zeh f J ho xs (fun y hy=>st y (by simp[hy])) H1 j1 fun H' j'=>?_
   have:=q H' j'
   rwa [Waz (by rw[h]; simp)] at this
theorem Zu7 {own:Zgc} {c0:SD} {te:EF} (g:D->D) (J:HD->Prop) (ho:∀ H,J H->Zb7 own H) {Q:List D->HD->Prop}:∀ (xs:List D) (st:∀ x∈xs,∀ H,J H->wE (te (some x::c0) H) fun d H1=>d=g x/\J H1) (H:HD),J H->(∀ H',J H'->Q (xs.map g) H')->wA (Zee own c0 Zxp te xs H) Q
 | [],st,H,j,q=>Znd (ho H j) (q H j)
 | x::xs,st,H,j,q=>by
  refine Zjd (ho H j) (w_yes (w_bt ?_))
  obtain⟨b,H1,e,rfl,j1⟩:=st x (by simp) H j
  exact⟨_,H1,e,Zu7 g J ho xs (fun y hy=>st y (by simp[hy])) H1 j1 q⟩
theorem Yal {own:Zgc} {c0:SD} {tt:TF} {te:EF} (f:D->Bool) (g:D->D) (J:HD->Prop) (ho:∀ H,J H->Zb7 own H) {Q:List D->HD->Prop}:∀ (xs:List D) (st:∀ x∈xs,∀ H,J H->wT (tt (some x::c0) H) fun b H1=>b=f x/\J H1) (st2:∀ x∈xs,f x=true->∀ H,J H->wE (te (some x::c0) H) fun d H1=>d=g x/\J H1) (H:HD),J H->(∀ H',J H'->Q ((xs.filter f).map g) H')->wA (Zee own c0 tt te xs H) Q
 | [],st,st2,H,j,q=>Znd (ho H j) (q H j)
 | x::xs,st,st2,H,j,q=>by
  refine Zjd (ho H j) ?_
  obtain⟨b,H1,e,rfl,j1⟩:=st x (by simp) H j
  refine⟨_,H1,e,fun h=>?_,fun h=>?_⟩
  ·obtain⟨d,H2,e2,rfl,j2⟩:=st2 x (by simp) h H1 j1
   refine⟨_,H2,e2,?_⟩
   refine Yal f g J ho xs (fun y hy=>st y (by simp[hy])) (fun y hy=>st2 y (by simp[hy])) H2 j2 fun H' j'=>?_
   have:=q H' j'
   rwa [Wbq h] at this
  ·refine Yal f g J ho xs (fun y hy=>st y (by simp[hy])) (fun y hy=>st2 y (by simp[hy])) H1 j1 fun H' j'=>?_
   have:=q H' j'
   rwa [Waz (by rw[h]; simp)] at this
theorem Zop {own:Zgc} {c0:SD} {tt:TF} (J:HD->Prop) (ho:∀ H,J H->Zb7 own H) {Q:List D->HD->Prop}:∀ (xs:List D) (st:∀ x∈xs,∀ H,J H->wT (tt (some x::c0) H) fun b H1=>J H1) (H:HD),J H->(∀ ys H',J H'->(∀ y∈ys,y∈xs)->ys.length<=xs.length->Q ys H')->wA (Zee own c0 tt (Zac 0) xs H) Q
 | [],st,H,j,q=>Znd (ho H j) (q [] H j (by simp) (Xd _))
 | x::xs,st,H,j,q=>by
  refine Zjd (ho H j) ?_
  obtain⟨b,H1,e,j1⟩:=st x (by simp) H j
  refine⟨_,H1,e,fun h=>?_,fun h=>?_⟩
  ·refine⟨x,H1,rfl,?_⟩
   refine Zop J ho xs (fun y hy=>st y (by simp[hy])) H1 j1 fun ys H' j' m l=>q (x::ys) H' j' (fun y hy=>?_) (by simp; exact l)
   rcases Xh.mp hy with rfl | hy
   ·simp
   ·simp[m y hy]
  ·exact Zop J ho xs (fun y hy=>st y (by simp[hy])) H1 j1 fun ys H' j' m l=>q ys H' j' (fun y hy=>by simp[m y hy]) (by simp; omega)
end
structure Fm (S:List Nat) (H H':HD):Prop where
 old:∀ (m:Nat) (o:DO),m∉S->H[m]? = some o->H'[m]? = some o\/∃ kvs,o=.dic kvs false/\H'[m]? = some (.dic kvs true)
 len:H.length<=H'.length
theorem Fm.refl {S:List Nat} {H:HD}:Fm S H H:=⟨fun _ _ _ h=>.inl h,Xd _⟩
theorem Fm.trans {S:List Nat} {H H1 H2:HD} (a:Fm S H H1) (b:Fm S H1 H2):Fm S H H2:=by
 refine⟨fun m o hm h=>?_,Waf a.len b.len⟩
 rcases a.old m o hm h with h1 | ⟨kvs,rfl,h1⟩
 ·exact b.old m o hm h1
 ·rcases b.old m _ hm h1 with h2 | ⟨k2,e,_⟩
  ·exact .inr ⟨kvs,rfl,h2⟩
  ·cases e
theorem Fm.sub {S T:List Nat} {H H':HD} (a:Fm S H H') (h:∀ m∈S,m∈T):Fm T H H':=⟨fun m o hm q=>a.old m o (fun z=>hm (h m z)) q,a.len⟩
theorem Fm.app {S:List Nat} {H:HD} (L:HD):Fm S H (H++L):=⟨fun m o _ q=>.inl (by
 have:m<H.length:=(Xc.mp q).1
 rw[Xg this]; exact q),by simp⟩
theorem Fm.set {S:List Nat} {H:HD} {p:Nat} {o:DO} (h:p∈S):Fm S H (H.set p o):=⟨fun m u hm q=>.inl (by rw[Wal (fun z=>hm (by rw[<- z]; exact h))]; exact q),by simp⟩
theorem Fm.new {S T:List Nat} {H H1 H':HD} (a:Fm S H H1) (b:Fm T H1 H') (h:∀ m∈T,m∉S->H.length<=m):Fm S H H':=by
 refine⟨fun m o hm q=>?_,Waf a.len b.len⟩
 have lt:m<H.length:=(Xc.mp q).1
 have ht:m∉T:=fun z=>by have:=h m z hm; omega
 rcases a.old m o hm q with h1 | ⟨kvs,rfl,h1⟩
 ·exact b.old m o ht h1
 ·rcases b.old m _ ht h1 with h2 | ⟨k2,e,_⟩
  ·exact .inr ⟨kvs,rfl,h2⟩
  ·cases e
theorem Fm.lst {S:List Nat} {H H':HD} (x:Fm S H H') {m:Nat} {xs:List D} (hm:m∉S) (h:H[m]? = some (.lst xs)):H'[m]? = some (.lst xs):=by
 rcases x.old m _ hm h with h1 | ⟨k2,e,_⟩
 ·exact h1
 ·cases e
theorem Fm.fr {S:List Nat} {H H':HD} (x:Fm S H H') {m:Nat} {kvs:List (D×D)} (hm:m∉S) (h:H[m]? = some (.dic kvs true)):H'[m]? = some (.dic kvs true):=by
 rcases x.old m _ hm h with h1 | ⟨k2,e,_⟩
 ·exact h1
 ·cases e
theorem Fm.dic {S:List Nat} {H H':HD} (x:Fm S H H') {m:Nat} {kvs:List (D×D)} {fz:Bool} (hm:m∉S) (h:H[m]? = some (.dic kvs fz)):∃ fz',H'[m]? = some (.dic kvs fz'):=by
 rcases x.old m _ hm h with h1 | ⟨k2,e,h1⟩
 ·exact⟨fz,h1⟩
 ·cases e; exact⟨true,h1⟩
theorem _root_.LH.ExtS.fm {S:List Nat} {H H':HD} (x:ExtS S H H'):Fm S H H':=⟨fun m o hm q=>.inl (x.old m o hm q),x.len⟩
theorem isl {H:HD} {n:Nat} {xs:List D} (h:H[n]? = some (.lst xs)):Znz (.ref n) H=true:=by simp[Znz,h]
theorem Zok {H:HD} {n:Nat} {o:DO} (h:H[n]? = some o):Zb7 [(n,o)] H:=by intro p hp; simp at hp; subst hp; exact h
theorem Zh3 {H:HD}:Zb7 [] H:=by intro p hp; cases hp
theorem last {H:HD} {o:DO}:(H++[o])[H.length]? = some o:=by simp
theorem appL {H:HD} {n:Nat} {o u:DO} (h:H[n]? = some o):(H++[u])[n]? = some o:=by
 rw[Xg (Xc.mp h).1]; exact h
theorem Zvk {H:HD} {n m:Nat} {o u:DO} (hn:n≠m) (h:H[m]? = some o):(H.set n u)[m]? = some o:=by rw[Wal hn]; exact h
theorem Zjl {H:HD} {n:Nat} {o u:DO} (h:H[n]? = some u):(H.set n o)[n]? = some o:=Wbd (Xc.mp h).1
structure Fine (d:D) (x:Uaf) (h:Nat):Prop where
 to:∀ H n,toP H n d=some x
 lay:x.canLay0=true
 dep:x.depth<=h
theorem Fine.int (i:Int):Fine (.int i) (.int i) 0:=⟨fun H n=>Zut H n i,rfl,Xd _⟩
theorem Fine.bl (b:Bool):Fine (.bl b) (.bool b) 0:=⟨fun H n=>Yba H n b,rfl,Xd _⟩
structure Fines (ds:List D) (xs:List Uaf) (h:Nat):Prop where
 to:∀ H n,Zrz H n ds=some xs
 lay:Tbp xs=true
 dep:Tca xs<=h
 len:xs.length=ds.length
theorem Fines.nil {h:Nat}:Fines [] [] h:=⟨fun H n=>by rw[Zrz],rfl,Wbb _,rfl⟩
theorem Fines.cons {d:D} {x:Uaf} {ds:List D} {xs:List Uaf} {h:Nat} (a:Fine d x h) (b:Fines ds xs h):Fines (d::ds) (x::xs) h :=
 ⟨fun H n=>by rw[Zrz,a.to,b.to]; rfl,by simp[Tbp,a.lay,b.lay],by simp only[Tca]; exact Nat.max_le.mpr ⟨a.dep,b.dep⟩,by simp[b.len]⟩
theorem Fines.of {h:Nat}:∀ ds:List D,(∀ d∈ds,∃ x,Fine d x h)->∃ xs,Fines ds xs h
 | [],_=>⟨[],.nil⟩
 | d::ds,f=>by
  obtain⟨x,a⟩:=f d (by simp)
  obtain⟨xs,b⟩:=Fines.of ds fun e he=>f e (by simp[he])
  exact⟨x::xs,.cons a b⟩
theorem Fine.tup {ds:List D} {xs:List Uaf} {h:Nat} (f:Fines ds xs h):Fine (.tup ds) (.tuple xs) (h+1) :=
 ⟨fun H n=>by cases n<;>rw[toP,f.to]<;>rfl,f.lay,Wft f.dep⟩
theorem Fine.dat {d:D} {x:Uaf} {h:Nat} (f:Fine d x h) (l:h<=30) (H:HD):DL.dat d H=some x:=by
 unfold DL.dat
 rw[f.to]
 have:x.depth<=30:=Waf f.dep l
 simp[okP,f.lay,this]
theorem Fines.dat {ds:List D} {xs:List Uaf} {h:Nat} (f:Fines ds xs h) (l:h<30) {H:HD} {p:Nat} (g:H[p]? = some (.lst ds)):DL.dat (.ref p) H=some (.list xs):=by
 unfold DL.dat
 rw[toP]
 simp only[g]
 rw[f.to]
 have:(PyData.list xs).depth<=30:=Waf (Wft f.dep) l
 have h2:(PyData.list xs).canLay0=true:=f.lay
 simp[okP,h2,this]
theorem Zru {a b:D} {x y:Uaf} {H:HD} (h1:dat a H=some x) (h2:dat b H=some y):eqD a b H=some (.bl (Ub x y),H):=by
 unfold eqD
 cases e:Zrd a b with
 | none=>rw[h1,h2]; rfl
 | some p =>
  obtain⟨s,t⟩:=p
  unfold Zrd at e
  split at e
  ·cases e
   unfold dat at h1 h2
   rw[Zkg] at h1 h2
   simp only[Zb] at h1 h2
   split at h1
   ·split at h2
    ·cases h1; cases h2; simp[Ub]
    ·cases h2
   ·cases h1
  ·cases e
theorem Zr1 {a b:D} {x y:Uaf} {H:HD} (h1:dat a H=some x) (h2:dat b H=some y):neD a b H=some (.bl (!Ub x y),H):=by
 unfold neD
 cases e:Zrd a b with
 | none=>rw[h1,h2]; rfl
 | some p =>
  obtain⟨s,t⟩:=p
  unfold Zrd at e
  split at e
  ·cases e
   unfold dat at h1 h2
   rw[Zkg] at h1 h2
   simp only[Zb] at h1 h2
   split at h1
   ·split at h2
    ·cases h1; cases h2; simp[Ub]; rfl
    ·cases h2
   ·cases h1
  ·cases e
variable {H:HD} {Q:D->HD->Prop}
theorem Ycd {a b:D} {x y:Uaf} {h k:Nat} (f:Fine a x h) (g:Fine b y k) (hh:h<=30) (hk:k<=30) (q:Q (.bl (Ub x y)) H):wE (eqD a b H) Q:=⟨_,_,Zru (f.dat hh H) (g.dat hk H),q⟩
theorem Zyv {a b:D} {x y:Uaf} {h k:Nat} (f:Fine a x h) (g:Fine b y k) (hh:h<=30) (hk:k<=30) (q:Q (.bl (!Ub x y)) H):wE (neD a b H) Q:=⟨_,_,Zr1 (f.dat hh H) (g.dat hk H),q⟩
theorem Zzm {xs:List D} {ys:List Uaf} {h:Nat} (f:Fines xs ys h):Ub (.tuple ys) (.tuple [])=xs.isEmpty:=by
 have:=f.len
 cases ys with
 | nil=>cases xs with
  | nil=>rfl
  | cons _ _=>simp at this
 | cons p ps=>cases xs with
  | nil=>simp at this
  | cons _ _=>simp[Ub,Uu]
theorem Zz5 {xs:List D} {ys:List Uaf} {h:Nat} (f:Fines xs ys h) (hh:h<30) (q:Q (.bl xs.isEmpty) H):wE (eqD (.tup xs) (.tup []) H) Q :=
 Ycd (Fine.tup f) (Fine.tup (Fines.nil (h:=0))) (by omega) (by omega) (by rw[Zzm f]; exact q)
theorem w_niL {a:D} {x:Uaf} {h k p:Nat} {ds:List D} {xs:List Uaf} (f:Fine a x h) (g:Fines ds xs k) (hh:h<=30) (hk:k<30) (hp:H[p]? = some (.lst ds)) (q:Q (.bl (!xs.any fun z=>Ub z x)) H):wE (niD a (.ref p) H) Q :=
 ⟨_,_,by unfold niD; rw[f.dat hh,Zb,g.dat hk hp]; rfl,q⟩
theorem w_inL {a:D} {x:Uaf} {h k p:Nat} {ds:List D} {xs:List Uaf} (f:Fine a x h) (g:Fines ds xs k) (hh:h<=30) (hk:k<30) (hp:H[p]? = some (.lst ds)) (q:Q (.bl (xs.any fun z=>Ub z x)) H):wE (inD a (.ref p) H) Q :=
 ⟨_,_,by unfold inD; rw[f.dat hh,Zb,g.dat hk hp]; rfl,q⟩
theorem w_niT {a:D} {x:Uaf} {h k:Nat} {ds:List D} {xs:List Uaf} (f:Fine a x h) (g:Fines ds xs k) (hh:h<=30) (hk:k<30) (q:Q (.bl (!xs.any fun z=>Ub z x)) H):wE (niD a (.tup ds) H) Q :=
 ⟨_,_,by unfold niD; rw[f.dat hh,Zb,(Fine.tup g).dat hk]; rfl,q⟩
theorem w_inT {a:D} {x:Uaf} {h k:Nat} {ds:List D} {xs:List Uaf} (f:Fine a x h) (g:Fines ds xs k) (hh:h<=30) (hk:k<30) (q:Q (.bl (xs.any fun z=>Ub z x)) H):wE (inD a (.tup ds) H) Q :=
 ⟨_,_,by unfold inD; rw[f.dat hh,Zb,(Fine.tup g).dat hk]; rfl,q⟩
theorem w_neI {i j:Int} (q:Q (.bl (!(i==j))) H):wE (neD (.int i) (.int j) H) Q:=Zyv (.int i) (.int j) (by omega) (by omega) (by simpa [Ub] using q)
theorem w_neI' {i j:Int} {r:Bool} (hr:(i==j)=r) (q:Q (.bl (!r)) H):wE (neD (.int i) (.int j) H) Q:=w_neI (by rw[hr]; exact q)
end WP
set_option maxHeartbeats 8000000
namespace K08
open PySem L2 DL
nonrec def k_TRUTHS:D:=(.tup [(.bl false),(.bl true)])
nonrec def Zej:SF :=
 (Zag (Zbl (eAn (eCB Zrm (Zab (Zac 0) (Zab (eC (.ty "int")) Zaf))) (eNo (eCB Zrm (Zab (Zac 0) (Zab (eC (.ty "bool")) Zaf))))))
 Zak)
nonrec def Zfn:FF:=Zbd 1 1 Zej
nonrec def Zb2:SF :=
 (Zag (Zbg 1 eDN)
 (Zag (Zew (Znu (Zab (Zac 0) Zaf)) (gTp 2 (gCn (gNm 2) (gCn (gNm 3) gNl))) (Zag (Zcj (eDM Zjq (Zac 1) (Zab (Zac 3) (Zab (Zac 2) Zaf))))
 Zak))
 (Zag (Zbl (Zac 1))
 Zak)))
nonrec def Zbp:FF:=Zbd 1 4 Zb2
nonrec def Zcm:SF :=
 (Zag (Zbg 3 (eIf (Zg7 (Zac 2)) (Zac 1) (eUn Zjv (Zac 1))))
 (Zag (Zbg 4 eDN)
 (Zag (Zew (Zyo (Zac 0)) (gNm 5) (Zag (Zbg 6 (eIf (Zg7 (Zac 5)) (eOp ixD (Zac 5) (eC (.int 0))) (eC (.int 0))))
 (Zag (sIf (tOf (eOp eqD (Zac 6) (eUn Zjv (Zac 3)))) (Zag (Zcj (eDM Zjq (Zac 4) (Zab (eSl (Zac 5) (Ze2 (eC (.int 1))) Zfy) (Zab (eOp Ze1 (Zac 0) (Zac 5)) Zaf))))
 Zak) (Zag (sIf (tOf (eOp neD (Zac 6) (Zac 3))) (Zag (Zcj (eDM Zjq (Zac 4) (Zab (Zac 5) (Zab (eOp Ze1 (Zac 0) (Zac 5)) Zaf))))
 Zak) Zak)
 Zak))
 Zak)))
 (Zag (Zbl (Zac 4))
 Zak))))
nonrec def Za4:FF:=Zbd 3 7 Zcm
nonrec def Zbj:SF :=
 (Zag (Zbg 2 (Zal 1 Zbp (Zab (Zac 0) Zaf)))
 (Zag (Zew (Zps (Zab (Zac 1) Zaf)) (gTp 2 (gCn (gNm 3) (gCn (gNm 4) gNl))) (Zag (Zbg 2 (Zal 3 Za4 (Zab (Zac 2) (Zab (Zac 3) (Zab (Zac 4) Zaf)))))
 Zak))
 (Zag (Zbl (Zac 2))
 Zak)))
nonrec def Zby:FF:=Zbd 2 5 Zbj
nonrec def Zc5:SF :=
 (Zag (Zbl (eIf (tOf (eOp eqD (Zac 0) (eC (.str "some")))) (eC (.str "all")) (eC (.str "some"))))
 Zak)
nonrec def Zbq:FF:=Zbd 1 1 Zc5
nonrec def Za2 (F:FF):SF :=
 (Zag (sIf (tOf (eOp dinD (Zdi Zaf) (Zac 1))) (Zag (Zbl (eC (.str "all")))
 Zak) Zak)
 (Zag (sIf (tOf (eOp eqD (eCB Zkn (Zab (Zac 1) Zaf)) (eC (.int 0)))) (Zag (Zbl (eC (.str "some")))
 Zak) Zak)
 (Zag (Zbg 3 (eOp ixD (Zac 0) (Zac 2)))
 (Zag (Zew (iSq (eC k_TRUTHS)) (gNm 4) (Zag (sIf (tOf (eOp eqD (Zal 3 F (Zab (Zac 0) (Zab (Zal 3 Za4 (Zab (Zac 1) (Zab (eOp Zb0 (Zac 2) (eC (.int 1))) (Zab (Zac 4) Zaf)))) (Zab (eOp Zb0 (Zac 2) (eC (.int 1))) Zaf)))) (Zac 3))) (Zag (Zbl (Zac 3))
 Zak) Zak)
 Zak))
 (Zag (Zbl (Zal 1 Zbq (Zab (Zac 3) Zaf)))
 Zak)))))
nonrec def Zcl:FF:=Zlg 3 5 Za2 10
nonrec def Zgt:SF :=
 (Zag (Zbl (Zal 3 Zcl (Zab (eOp ixD (Zac 0) (eC (.int 0))) (Zab (Zal 2 Zby (Zab (eOp ixD (Zac 0) (eC (.int 1))) (Zab (Zac 1) Zaf))) (Zab (eCB Zct (Zab (Zac 1) Zaf)) Zaf)))))
 Zak)
nonrec def Zgk:FF:=Zbd 2 2 Zgt
nonrec def Zc8:SF :=
 (Zag (Zbl (eCB Yax (Zab (eLC (iSq (Zac 1)) [0] Zxp (eOp eqD (eOp ixD (Zac 1) (eOp Zll (eCB Zws (Zab (Zac 0) Zaf)) (eC (.int 1)))) (eC (.str "all")))) Zaf)))
 Zak)
nonrec def Ze3:FF:=Zbd 2 2 Zc8
nonrec def Zbv:SF :=
 (Zag (Zew (Zyo (Zac 1)) (gNm 2) (Zag (sIf (Zg7 (Zal 2 Ze3 (Zab (Zac 0) (Zab (Zac 2) Zaf)))) (Zag (Zbl (eOp Ze1 (Zac 1) (Zac 2)))
 Zak) Zak)
 Zak))
 (Zag (Zbl (eC .non))
 Zak))
nonrec def Zde:FF:=Zbd 2 3 Zbv
nonrec def Zcc:SF :=
 (Zag (Zbl (eAn (Zal 1 Zfn (Zab (Zac 0) Zaf)) (eCh leD ltD (eC (.int 0)) (Zac 0) (Zac 1))))
 Zak)
nonrec def Zbw:FF:=Zbd 2 2 Zcc
nonrec def Zbk:SF :=
 (Zag (Zbl (eAn (Zal 1 Zfn (Zab (Zac 2) Zaf)) (eAn (eCh leD leD (eC (.int 1)) (Zac 2) (eCB Zct (Zab (Zac 0) Zaf))) (eOp neD (eOp ixD (Zac 0) (eOp Zll (Zac 2) (eC (.int 1)))) (Zac 1)))))
 Zak)
nonrec def Zcp:FF:=Zbd 3 3 Zbk
nonrec def Zeg:SF :=
 (Zag (Zbg 3 (eCB Zct (Zab (Zac 2) Zaf)))
 (Zag (sWh (tAn (tOf (eOp gtD (Zac 3) (eC (.int 0)))) (tOf (eOp eqD (eOp ixD (Zac 0) (eOp Zll (eCB Zws (Zab (eOp ixD (Zac 2) (eOp Zll (Zac 3) (eC (.int 1)))) Zaf)) (eC (.int 1)))) (Zac 1)))) (Zag (sAug (fun i j=>i - j) 3 (eC (.int 1)))
 Zak) 20)
 (Zag (Zbl (eSl (Zac 2) Zfy (Ze2 (Zac 3))))
 Zak)))
nonrec def Zfk:FF:=Zbd 3 4 Zeg
nonrec def Zfa:SF :=
 (Zag (Zbl (eCB Zd7 (Zab (eLC (iSq (Zac 0)) [1] (tOf (eOp neD (Zac 0) (Zac 1))) (Zac 0)) Zaf)))
 Zak)
nonrec def Zgh:FF:=Zbd 2 2 Zfa
nonrec def Zl2:SF :=
 (Zag (Zbg 2 (eCB Zvu (Zab (Zac 0) Zaf)))
 (Zag (Zew (iSq (Zac 1)) (gNm 3) (Zag (sIf (tOf (eOp inD (eUn Zjv (Zac 3)) (Zac 0))) (Zag (Zbl (eC .non))
 Zak) Zak)
 (Zag (sIf (tOf (eOp niD (Zac 3) (Zac 0))) (Zag (Zcj (eLM Zb1 (Zac 2) (Zab (Zac 3) Zaf)))
 Zak) Zak)
 Zak)))
 (Zag (Zbl (eCB Zd7 (Zab (eCB Znn (Zab (Zac 2) Zaf)) Zaf)))
 Zak)))
nonrec def Zud:FF:=Zbd 2 4 Zl2
nonrec def Zgo:SF :=
 (Zag (sIf (Zlm (tOf (eOp niD (Zac 2) (Zac 0))) (tOf (eOp niD (eUn Zjv (Zac 2)) (Zac 1)))) (Zag (Zbl (eC .non))
 Zak) Zak)
 (Zag (Zbl (Zal 2 Zud (Zab (Zal 2 Zgh (Zab (Zac 0) (Zab (Zac 2) Zaf))) (Zab (Zal 2 Zgh (Zab (Zac 1) (Zab (eUn Zjv (Zac 2)) Zaf))) Zaf))))
 Zak))
nonrec def Zhz:FF:=Zbd 3 3 Zgo
nonrec def Zcb:SF :=
 (Zag (sIf (Zlm (tOf (eOp neD (eCB Zct (Zab (Zac 3) Zaf)) (eC (.int 2)))) (tNo (Zg7 (Zal 2 Zbw (Zab (eOp ixD (Zac 3) (eC (.int 1))) (Zab (eCB Zct (Zab (Zac 2) Zaf)) Zaf)))))) (Zag (Zbl (eC .non))
 Zak) Zak)
 (Zag (Zbl (Zal 3 Zfk (Zab (Zac 0) (Zab (Zac 1) (Zab (eOp ixD (Zac 2) (eOp ixD (Zac 3) (eC (.int 1)))) Zaf)))))
 Zak))
nonrec def Zfs:FF:=Zbd 4 4 Zcb
nonrec def Zbs:SF :=
 (Zag (sIf (Zlm (tOf (eOp neD (eCB Zct (Zab (Zac 3) Zaf)) (eC (.int 4)))) (Zlm (tNo (Zg7 (Zal 2 Zbw (Zab (eOp ixD (Zac 3) (eC (.int 1))) (Zab (eCB Zct (Zab (Zac 2) Zaf)) Zaf))))) (tNo (Zg7 (Zal 2 Zbw (Zab (eOp ixD (Zac 3) (eC (.int 2))) (Zab (eCB Zct (Zab (Zac 2) Zaf)) Zaf))))))) (Zag (Zbl (eC .non))
 Zak) Zak)
 (Zag (sIf (tNo (Zg7 (Zal 3 Zcp (Zab (Zac 0) (Zab (Zac 1) (Zab (eOp ixD (Zac 3) (eC (.int 3))) Zaf)))))) (Zag (Zbl (eC .non))
 Zak) Zak)
 (Zag (Zbl (Zal 3 Zhz (Zab (eOp ixD (Zac 2) (eOp ixD (Zac 3) (eC (.int 1)))) (Zab (eOp ixD (Zac 2) (eOp ixD (Zac 3) (eC (.int 2)))) (Zab (eOp ixD (Zac 3) (eC (.int 3))) Zaf)))))
 Zak)))
nonrec def Zey:FF:=Zbd 4 4 Zbs
nonrec def Zd4:SF :=
 (Zag (Zcj (eLM Zb1 (Zac 2) (Zab (Zdi (Zab (Zac 3) (Zab (Zac 4) Zaf))) Zaf)))
 (Zag (Zbg 5 (Zal 3 Zfk (Zab (Zac 0) (Zab (Zac 1) (Zab (Zac 4) Zaf)))))
 (Zag (sIf (tOf (eOp neD (Zac 5) (Zac 4))) (Zag (Zcj (eLM Zb1 (Zac 2) (Zab (Zdi (Zab (Zdi (Zab (eC (.str "less")) (Zab (eOp Zll (eCB Zct (Zab (Zac 2) Zaf)) (eC (.int 1))) Zaf))) (Zab (Zac 5) Zaf))) Zaf)))
 Zak) Zak)
 Zak)))
nonrec def Zfo:FF:=Zbd 5 6 Zd4
nonrec def Zc7:SF :=
 (Zag (sIf (Zlm (tOf (eOp neD (eCB Zct (Zab (Zac 1) Zaf)) (eC (.int 2)))) (Zlm (tOf (eOp neD (eOp ixD (Zac 1) (eC (.int 0))) (eC (.str "row")))) (tNo (Zg7 (Zal 2 Zbw (Zab (eOp ixD (Zac 1) (eC (.int 1))) (Zab (eCB Zct (Zab (eOp ixD (Zac 0) (eC (.int 1))) Zaf)) Zaf))))))) (Zag (Zbl (eC .non))
 Zak) Zak)
 (Zag (Zbl (eOp ixD (eOp ixD (Zac 0) (eC (.int 1))) (eOp ixD (Zac 1) (eC (.int 1)))))
 Zak))
nonrec def Zhl:FF:=Zbd 2 2 Zc7
nonrec def Zff:SF :=
 (Zag (sIf (Zlm (tNo (Zg7 (eCB Zrm (Zab (Zac 4) (Zab (eC (.ty "tuple")) Zaf))))) (tOf (eOp eqD (eCB Zct (Zab (Zac 4) Zaf)) (eC (.int 0))))) (Zag (Zbl (eC .non))
 Zak) Zak)
 (Zag (sIf (tOf (eOp eqD (eOp ixD (Zac 4) (eC (.int 0))) (eC (.str "less")))) (Zag (Zbl (Zal 4 Zfs (Zab (eOp ixD (Zac 0) (eC (.int 0))) (Zab (Zac 1) (Zab (Zac 3) (Zab (Zac 4) Zaf))))))
 Zak) Zak)
 (Zag (sIf (tOf (eOp eqD (eOp ixD (Zac 4) (eC (.int 0))) (eC (.str "joined")))) (Zag (Zbl (Zal 4 Zey (Zab (eOp ixD (Zac 0) (eC (.int 0))) (Zab (Zac 1) (Zab (Zac 3) (Zab (Zac 4) Zaf))))))
 Zak) Zak)
 (Zag (Zbl (Zlr 2 2 "claims_row" Zhl (Zab (Zac 0) (Zab (Zac 4) Zaf))))
 Zak))))
nonrec def Zgl:FF:=Zbd 5 5 Zff
nonrec def Zd8:SF :=
 (Zag (Zbg 4 (Zd3 Zaf))
 (Zag (Zew (Zpt (Zab (Zac 3) Zaf)) (gTp 2 (gCn (gNm 5) (gCn (gNm 6) gNl))) (Zag (Zbg 7 (Zal 5 Zgl (Zab (Zac 0) (Zab (Zac 1) (Zab (Zac 2) (Zab (Zac 4) (Zab (Zac 6) Zaf)))))))
 (Zag (sIf (tOf (eOp isD (Zac 7) (eC .non))) (Zag Yad
 Zak) Zak)
 (Zag (Zcj (eLM Zb1 (Zac 4) (Zab (Zac 7) Zaf)))
 Zak))))
 (Zag (Zbl (Zac 4))
 Zak)))
nonrec def Zg9:FF:=Zbd 4 8 Zd8
nonrec def Ze6:SF :=
 (Zag (Zbl (Zal 4 Zg9 (Zab (Zac 0) (Zab (eC (.str "all")) (Zab (eC (.ty "claims_row")) (Zab (Zac 1) Zaf))))))
 Zak)
nonrec def Zgv:FF:=Zbd 2 2 Ze6
nonrec def Zfe:SF :=
 (Zag (Zbg 2 (eOp ixD (Zd3 (Zab (eC (.int 2147483647)) (Zab (eC (.int 2147483629)) (Zab (eC (.int 2147483587)) (Zab (eC (.int 2147483579)) (Zab (eC (.int 2147483563)) (Zab (eC (.int 2147483549)) (Zab (eC (.int 2147483543)) Zaf)))))))) (eOp Zfm (Zac 1) (eC (.int 7)))))
 (Zag (Zbg 3 (eOp Zfm (eOp Zp7 (eOp Zb0 (eOp Zfm (Zac 0) (eC (.int 998244353))) (eOp Zp7 (eC (.int 104729)) (eOp Zb0 (Zac 1) (eC (.int 1))))) (eOp Zb0 (eOp Zb0 (eOp Zp7 (Zac 1) (Zac 1)) (eOp Zp7 (eC (.int 7)) (Zac 1))) (eC (.int 13)))) (Zac 2)))
 (Zag (Zbg 3 (eOp Zfm (eOp Yat (Zac 3) (eC (.int 5))) (eC (.int 1000000007))))
 (Zag (Zbg 3 (eOp Zfm (eOp Zb0 (eOp Zb0 (eOp Zp7 (Zac 3) (eC (.int 48271))) (eOp Zp7 (eC (.int 31)) (Zac 1))) (eC (.int 5))) (Zac 2)))
 (Zag (Zbl (eOp Zq5 (eOp Zfm (eOp Yat (Zac 3) (eC (.int 3))) (eC (.int 998244353))) (eC (.int 8))))
 Zak)))))
nonrec def Zjb:FF:=Zbd 2 4 Zfe
nonrec def Zc3:SF :=
 (Zag (Zbg 2 (Zd3 Zaf))
 (Zag (Zbg 3 (eCB Zws (Zab (Zac 0) Zaf)))
 (Zag (Zbg 4 (eOp geD (Zac 3) (eOp Yat (eC (.int 10)) (eC (.int 18)))))
 (Zag (Zew (iR1 (Zab (Zac 1) Zaf)) (gNm 5) (Zag (sIf (tAn (Zg7 (Zac 4)) (tOf (eOp gtD (Zac 3) (eC (.int 0))))) (Zag (Zcj (eLM Zb1 (Zac 2) (Zab (eOp Zfm (Zac 3) (eC (.int 10007))) Zaf)))
 (Zag (Zbg 3 (eOp Zq5 (Zac 3) (eC (.int 10007))))
 Zak)) (Zag (Zcj (eLM Zb1 (Zac 2) (Zab (Zal 2 Zjb (Zab (Zac 0) (Zab (Zac 5) Zaf))) Zaf)))
 Zak))
 Zak))
 (Zag (Zbl (Zac 2))
 Zak)))))
nonrec def Zcf:FF:=Zbd 2 6 Zc3
nonrec def Zgw:SF :=
 (Zag (sIf (tOf (eOp ltD (Zac 1) (eCB Zct (Zab (Zac 0) Zaf)))) (Zag (Zbl (eOp ixD (Zac 0) (Zac 1)))
 Zak) Zak)
 (Zag (Zbl (eOp Zb0 (eOp Zb0 (eOp Zp7 (eC (.int 67)) (Zac 1)) (eC (.int 19))) (eCB Zct (Zab (Zac 0) Zaf))))
 Zak))
nonrec def Zdw:FF:=Zbd 2 2 Zgw
nonrec def Zdr:SF :=
 (Zag (Zbg 2 (Zd3 Zaf))
 (Zag (Zew (iR1 (Zab (Zac 1) Zaf)) (gNm 3) (Zag (Zbg 4 (eOp ixD (Zd3 (Zab (eC (.str "all")) (Zab (eC (.str "some")) Zaf))) (eOp Zfm (eOp ixD (Zac 0) (eOp Zb0 (eC (.int 1)) (Zac 3))) (eC (.int 2)))))
 (Zag (sIf (tOf (eOp eqD (eOp Zfm (eOp ixD (Zac 0) (eC (.int 0))) (eC (.int 4))) (eC (.int 1)))) (Zag (Zbg 4 (eOp ixD (Zd3 (Zab (eC (.str "some")) (Zab (eC (.str "all")) Zaf))) (eOp Zfm (eOp Zb0 (Zac 3) (eOp ixD (Zac 0) (eC (.int 1)))) (eC (.int 2)))))
 Zak) Zak)
 (Zag (sIf (tOf (eOp eqD (eOp Zfm (eOp ixD (Zac 0) (eC (.int 0))) (eC (.int 4))) (eC (.int 2)))) (Zag (Zbg 4 (eOp ixD (Zd3 (Zab (eC (.str "all")) (Zab (eC (.str "some")) Zaf))) (eCB Zrn (Zab (eOp gtD (eOp Zfm (eOp ixD (Zac 0) (eOp Zb0 (eC (.int 1)) (Zac 3))) (eC (.int 3))) (eC (.int 0))) Zaf))))
 Zak) Zak)
 (Zag (Zcj (eLM Zb1 (Zac 2) (Zab (Zac 4) Zaf)))
 Zak)))))
 (Zag (Zbl (eCB Zd7 (Zab (Zac 2) Zaf)))
 Zak)))
nonrec def Zfx:FF:=Zbd 2 5 Zdr
nonrec def Ze7:SF :=
 (Zag (Zbg 3 (Zal 2 Zcf (Zab (Zac 0) (Zab (eOp Zb0 (Zac 1) (eC (.int 1))) Zaf))))
 (Zag (Zbg 4 (Zd3 Zaf))
 (Zag (Zew (iR1 (Zab (Zac 1) Zaf)) (gNm 5) (Zag (sIf (tOf (eOp ltD (eOp Zfm (eOp ixD (Zac 3) (eOp Zb0 (eC (.int 1)) (Zac 5))) (eOp Zb0 (Zac 1) (eC (.int 1)))) (eOp Zb0 (Zac 2) (eOp Zfm (eOp ixD (Zac 3) (eC (.int 0))) (eC (.int 3)))))) (Zag (Zcj (eLM Zb1 (Zac 4) (Zab (eOp ixD (Zd3 (Zab (eOp Zb0 (Zac 5) (eC (.int 1))) (Zab (eOp Zll (eOp Zll (eC (.int 0)) (Zac 5)) (eC (.int 1))) Zaf))) (eOp Zfm (eOp Zq5 (eOp ixD (Zac 3) (eOp Zb0 (eC (.int 1)) (Zac 5))) (eOp Zb0 (Zac 1) (eC (.int 1)))) (eC (.int 2)))) Zaf)))
 Zak) Zak)
 Zak))
 (Zag (Zbl (eCB Zd7 (Zab (Zac 4) Zaf)))
 Zak))))
nonrec def Zic:FF:=Zbd 3 6 Ze7
nonrec def Zdl:SF :=
 (Zag (Zbg 2 (Zal 2 Zcf (Zab (Zal 2 Zdw (Zab (Zac 0) (Zab (eC (.int 0)) Zaf))) (Zab (eC (.int 14)) Zaf))))
 (Zag (Zbg 3 (eOp ixD (Zd3 (Zab (eOp Zfm (eOp ixD (Zac 2) (eC (.int 0))) (eOp Zb0 (Zac 1) (eC (.int 1)))) (Zab (eOp Zll (Zac 1) (eOp Zfm (eOp ixD (Zac 2) (eC (.int 0))) (eC (.int 3)))) (Zab (Zac 1) Zaf)))) (eOp Zfm (eOp ixD (Zac 2) (eC (.int 1))) (eC (.int 3)))))
 (Zag (Zbg 4 (Zal 2 Zfx (Zab (eSl (Zac 2) (Ze2 (eC (.int 2))) Zfy) (Zab (eCB Ycp (Zab (eC (.int 0)) (Zab (Zac 3) Zaf))) Zaf))))
 (Zag (Zbg 5 (eOp ixD (Zd3 (Zab (eOp Zfm (eOp ixD (Zac 2) (eC (.int 12))) (eC (.int 5))) (Zab (eOp Zfm (eOp ixD (Zac 2) (eC (.int 12))) (eC (.int 11))) (Zab (eOp Zb0 (eC (.int 5)) (eOp Zfm (eOp ixD (Zac 2) (eC (.int 12))) (eC (.int 16)))) Zaf)))) (eOp Zfm (eOp ixD (Zac 2) (eC (.int 11))) (eC (.int 3)))))
 (Zag (Zbg 6 (eLC (iR1 (Zab (Zac 5) Zaf)) [0,4] Zxp (Zal 3 Zic (Zab (Zal 2 Zdw (Zab (Zac 1) (Zab (eOp Zb0 (eC (.int 1)) (Zac 0)) Zaf))) (Zab (eCB Zct (Zab (Zac 2) Zaf)) (Zab (eC (.int 1)) Zaf))))))
 (Zag (sIf (tOf (eOp gtD (eOp Zfm (eOp ixD (Zac 2) (eC (.int 13))) (eC (.int 3))) (eC (.int 0)))) (Zag (Zbg 6 (eLC (iSq (Zac 6)) [] (tOf (eOp neD (Zac 0) (Zdi Zaf))) (Zac 0)))
 Zak) Zak)
 (Zag (Zbl (Zdi (Zab (Zac 4) (Zab (eCB Zd7 (Zab (Zac 6) Zaf)) Zaf))))
 Zak)))))))
nonrec def Zf0:FF:=Zbd 2 7 Zdl
nonrec def Zdm:SF :=
 (Zag (Zbl (eOp eqD (eOp ixD (Zac 1) (eOp Zll (eCB Zws (Zab (Zac 0) Zaf)) (eC (.int 1)))) (eOp gtD (Zac 0) (eC (.int 0)))))
 Zak)
nonrec def Zep:FF:=Zbd 2 2 Zdm
nonrec def Zdq:SF :=
 (Zag (Zbg 1 (Zd3 (Zab (Zdi Zaf) Zaf)))
 (Zag (Zew (iR1 (Zab (Zac 0) Zaf)) (gNm 2) (Zag (Zbg 3 (Zd3 Zaf))
 (Zag (Zew (iSq (Zac 1)) (gNm 4) (Zag (Zbg 3 (eOp Zb0 (Zac 3) (Zd3 (Zab (eOp Zb0 (Zac 4) (Zdi (Zab (eC (.bl false)) Zaf))) (Zab (eOp Zb0 (Zac 4) (Zdi (Zab (eC (.bl true)) Zaf))) Zaf)))))
 Zak))
 (Zag (Zbg 1 (Zac 3))
 Zak))))
 (Zag (Zbl (Zac 1))
 Zak)))
nonrec def Zcy:FF:=Zbd 1 5 Zdq
nonrec def Zcu:SF :=
 (Zag (Zew (iSq (Zac 0)) (gNm 2) (Zag (sIf (tOf (eOp eqD (eLC (iSq (Zac 2)) [1] (Zg7 (Zal 2 Zep (Zab (Zac 0) (Zab (Zac 1) Zaf)))) (Zac 0)) (Zd3 Zaf))) (Zag (Zbl (eC (.bl true)))
 Zak) Zak)
 Zak))
 (Zag (Zbl (eC (.bl false)))
 Zak))
nonrec def Zci:FF:=Zbd 2 3 Zcu
nonrec def Zcr:SF :=
 (Zag (Zvj (Zac 0) (gTp 2 (gCn (gNm 4) (gCn (gNm 5) gNl))))
 (Zag (Zbg 1 eDN)
 (Zag (Zew (iSq (Zal 1 Zcy (Zab (eCB Zct (Zab (Zac 4) Zaf)) Zaf))) (gNm 2) (Zag (Zvj (eOp ixD (Zd3 (Zab (eC (.str "some")) (Zab (eC (.str "all")) Zaf))) (eCB Zrn (Zab (Zal 2 Zci (Zab (Zac 5) (Zab (Zac 2) Zaf))) Zaf))) (gSb (Zac 1) (Zac 2) Zlp))
 Zak))
 (Zag (Zew (iRB (Zab (eOp Zll (eCB Zct (Zab (Zac 4) Zaf)) (eC (.int 1))) (Zab (eUn Zjv (eC (.int 1))) (Zab (eUn Zjv (eC (.int 1))) Zaf)))) (gNm 3) (Zag (Zew (iSq (Zal 1 Zcy (Zab (Zac 3) Zaf))) (gNm 2) (Zag (Zbg 6 (Zd3 (Zab (eOp Ze1 (Zac 1) (eOp Zb0 (Zac 2) (Zdi (Zab (eC (.bl false)) Zaf)))) (Zab (eOp Ze1 (Zac 1) (eOp Zb0 (Zac 2) (Zdi (Zab (eC (.bl true)) Zaf)))) Zaf))))
 (Zag (Zbg 7 (eOp ixD (Zd3 (Zab (eC (.str "all")) (Zab (eC (.str "some")) Zaf))) (eCB Zrn (Zab (eOp eqD (eOp ixD (Zac 4) (Zac 3)) (eC (.str "all"))) Zaf))))
 (Zag (Zvj (eOp ixD (Zd3 (Zab (Zac 7) (Zab (eOp ixD (Zac 4) (Zac 3)) Zaf))) (eCB Zrn (Zab (eOp inD (eOp ixD (Zac 4) (Zac 3)) (Zac 6)) Zaf))) (gSb (Zac 1) (Zac 2) Zlp))
 Zak))))
 Zak))
 (Zag (Zbl (Zac 1))
 Zak)))))
nonrec def Zdg:FF:=Zbd 1 8 Zcr
nonrec def Zdt:SF :=
 (Zag (Zbl (eAn (eCB Zrm (Zab (Zac 0) (Zab (eC (.ty "int")) Zaf))) (eAn (eNo (eCB Zrm (Zab (Zac 0) (Zab (eC (.ty "bool")) Zaf)))) (eCh leD ltD (eC (.int 0)) (Zac 0) (Zac 1)))))
 Zak)
nonrec def Zcd:FF:=Zbd 2 2 Zdt
nonrec def Zd6:SF :=
 (Zag (Zbg 3 (Zd3 Zaf))
 (Zag (Zew (Znu (Zab (Zac 2) Zaf)) (gTp 2 (gCn (gNm 4) (gCn (gNm 5) gNl))) (Zag (Zbg 6 (eLC (iSq (eSl (Zac 2) (Ze2 (Zac 4)) Zfy)) [0,1] (tOf (eOp neD (eOp ixD (Zac 1) (eOp Zll (eCB Zws (Zab (Zac 0) Zaf)) (eC (.int 1)))) (Zac 2))) (Zac 0)))
 (Zag (sIf (tOf (eOp neD (Zac 6) (Zd3 Zaf))) (Zag (Zcj (eLM Zb1 (Zac 3) (Zab (Zac 5) Zaf)))
 Zak) Zak)
 Zak)))
 (Zag (Zbl (eCB Zd7 (Zab (Zac 3) Zaf)))
 Zak)))
nonrec def Zg8:FF:=Zbd 3 7 Zd6
nonrec def Zc4:SF :=
 (Zag (sIf (Zlm (tOf (eOp niD (Zac 2) (Zac 0))) (tOf (eOp niD (eUn Zjv (Zac 2)) (Zac 1)))) (Zag (Zbl (eC .non))
 Zak) Zak)
 (Zag (Zbg 3 eDI)
 (Zag (Zew (iSq (eOp Zb0 (Zac 0) (Zac 1))) (gNm 4) (Zag (sIf (tOf (eOp neD (eCB Zws (Zab (Zac 4) Zaf)) (Zac 2))) (Zag (sIf (tOf (eOp iinD (eUn Zjv (Zac 4)) (Zac 3))) (Zag (Zbl (eC .non))
 Zak) Zak)
 (Zag (Zvj (eC (.bl true)) (gSb (Zac 3) (Zac 4) Zq0))
 Zak)) Zak)
 Zak))
 (Zag (Zbl (eCB Zd7 (Zab (eCB Zip (Zab (Zac 3) Zaf)) Zaf)))
 Zak))))
nonrec def Zdy:FF:=Zbd 3 5 Zc4
nonrec def Zdp:SF :=
 (Zag (sIf (tOf (eOp eqD (Zac 1) (eC (.str "all")))) (Zag (sIf (tNo (Zg7 (Zal 2 Zcd (Zab (Zac 2) (Zab (eCB Zct (Zab (eOp ixD (Zac 0) (eC (.int 1))) Zaf)) Zaf))))) (Zag (Zbl (eC .non))
 Zak) Zak)
 (Zag (Zbl (eOp ixD (eOp ixD (Zac 0) (eC (.int 1))) (Zac 2)))
 Zak)) Zak)
 Yad)
nonrec def Zh6:FF:=Zbd 3 6 Zdp
nonrec def Zek:SF :=
 (Zag (sIf (Zlm (tNo (Zg7 (eCB Zrm (Zab (Zac 3) (Zab (eC (.ty "tuple")) Zaf))))) (Zlm (tOf (eOp eqD (eCB Zct (Zab (Zac 3) Zaf)) (eC (.int 0)))) (tNo (Zg7 (eCB Zrm (Zab (eOp ixD (Zac 3) (eC (.int 0))) (Zab (eC (.ty "str")) Zaf))))))) (Zag (Zbl (eC .non))
 Zak) Zak)
 (Zag (sIf (tAn (tOf (eOp eqD (eOp ixD (Zac 3) (eC (.int 0))) (eC (.str "less")))) (tAn (tOf (eOp eqD (eCB Zct (Zab (Zac 3) Zaf)) (eC (.int 2)))) (Zg7 (Zal 2 Zcd (Zab (eOp ixD (Zac 3) (eC (.int 1))) (Zab (eCB Zct (Zab (Zac 2) Zaf)) Zaf)))))) (Zag (Zbl (Zal 3 Zg8 (Zab (eOp ixD (Zac 0) (eC (.int 0))) (Zab (Zac 1) (Zab (eOp ixD (Zac 2) (eOp ixD (Zac 3) (eC (.int 1)))) Zaf)))))
 Zak) Zak)
 (Zag (sIf (tAn (tOf (eOp eqD (eOp ixD (Zac 3) (eC (.int 0))) (eC (.str "joined")))) (tOf (eOp eqD (eCB Zct (Zab (Zac 3) Zaf)) (eC (.int 4))))) (Zag (Zbg 4 (eLC (iR1 (Zab (eCB Zct (Zab (eOp ixD (Zac 0) (eC (.int 0))) Zaf)) Zaf)) [0,1] (tOf (eOp neD (eOp ixD (eOp ixD (Zac 1) (eC (.int 0))) (Zac 0)) (Zac 2))) (eOp Zb0 (Zac 0) (eC (.int 1)))))
 (Zag (sIf (tOf (eOp inD (eC (.bl false)) (eLC (iSq (eSl (Zac 3) (Ze2 (eC (.int 1))) (Ze2 (eC (.int 3))))) [2] Zxp (Zal 2 Zcd (Zab (Zac 0) (Zab (eCB Zct (Zab (Zac 1) Zaf)) Zaf)))))) (Zag (Zbl (eC .non))
 Zak) Zak)
 (Zag (sIf (Zlm (tNo (Zg7 (Zal 2 Zcd (Zab (eOp ixD (Zac 3) (eC (.int 3))) (Zab (eOp Zb0 (eCB Zct (Zab (eOp ixD (Zac 0) (eC (.int 0))) Zaf)) (eC (.int 1))) Zaf))))) (tOf (eOp niD (eOp ixD (Zac 3) (eC (.int 3))) (Zac 4)))) (Zag (Zbl (eC .non))
 Zak) Zak)
 (Zag (Zbl (Zal 3 Zdy (Zab (eOp ixD (Zac 2) (eOp ixD (Zac 3) (eC (.int 1)))) (Zab (eOp ixD (Zac 2) (eOp ixD (Zac 3) (eC (.int 2)))) (Zab (eOp ixD (Zac 3) (eC (.int 3))) Zaf)))))
 Zak)))) Zak)
 (Zag (sIf (tAn (tOf (eOp eqD (eOp ixD (Zac 3) (eC (.int 0))) (eOp ixD (Zd3 (Zab (eC (.str "term")) (Zab (eC (.str "row")) Zaf))) (eCB Zrn (Zab (eOp eqD (Zac 1) (eC (.str "all"))) Zaf))))) (tOf (eOp eqD (eCB Zct (Zab (Zac 3) Zaf)) (eC (.int 2))))) (Zag (Zbl (Zal 3 Zh6 (Zab (Zac 0) (Zab (Zac 1) (Zab (eOp ixD (Zac 3) (eC (.int 1))) Zaf)))))
 Zak) Zak)
 (Zag (Zbl (eC .non))
 Zak)))))
nonrec def Zg1:FF:=Zbd 4 5 Zek
nonrec def Zbt:SF :=
 (Zag (sIf (tAn (tOf (eOp eqD (eOp Zfm (eOp ixD (Zac 4) (eC (.int 0))) (eC (.int 4))) (eC (.int 0)))) (tOf (eOp neD (Zac 2) (Zd3 Zaf)))) (Zag (Zbl (Zdi (Zab (eC (.str "less")) (Zab (eOp Zfm (eOp ixD (Zac 4) (eC (.int 1))) (eCB Zct (Zab (Zac 2) Zaf))) Zaf))))
 Zak) Zak)
 (Zag (sIf (tAn (tOf (eOp ltD (eOp Zfm (eOp ixD (Zac 4) (eC (.int 0))) (eC (.int 4))) (eC (.int 3)))) (tOf (eOp neD (Zac 2) (Zd3 Zaf)))) (Zag (Zbg 5 (eLC (iR1 (Zab (eCB Zct (Zab (eOp ixD (Zac 0) (eC (.int 0))) Zaf)) Zaf)) [0,1] (tOf (eOp neD (eOp ixD (eOp ixD (Zac 1) (eC (.int 0))) (Zac 0)) (Zac 2))) (eOp Zb0 (Zac 0) (eC (.int 1)))))
 (Zag (Zew (iR1 (Zab (eCB Zct (Zab (Zac 2) Zaf)) Zaf)) (gNm 6) (Zag (Zbg 7 (eOp Zfm (eOp Zb0 (eOp ixD (Zac 4) (eC (.int 1))) (Zac 6)) (eCB Zct (Zab (Zac 2) Zaf))))
 (Zag (Zbg 8 (eOp Zfm (eOp Zb0 (eOp ixD (Zac 4) (eC (.int 2))) (eOp Zp7 (eC (.int 3)) (Zac 6))) (eCB Zct (Zab (Zac 2) Zaf))))
 (Zag (Zew (iSq (Zac 5)) (gNm 9) (Zag (sIf (tOf (eOp Yav (Zal 3 Zdy (Zab (eOp ixD (Zac 2) (Zac 7)) (Zab (eOp ixD (Zac 2) (Zac 8)) (Zab (Zac 9) Zaf)))) (eC .non))) (Zag (Zbl (Zdi (Zab (eC (.str "joined")) (Zab (Zac 7) (Zab (Zac 8) (Zab (Zac 9) Zaf))))))
 Zak) Zak)
 Zak))
 Zak))))
 Zak)) Zak)
 (Zag (sIf (tOf (eOp eqD (Zac 1) (eC (.str "all")))) (Zag (sIf (tOf (eOp eqD (eOp ixD (Zac 0) (eC (.int 1))) (Zdi Zaf))) (Zag (Zbl (eC .non))
 Zak) Zak)
 (Zag (Zbl (Zdi (Zab (eC (.str "row")) (Zab (eOp Zfm (eOp ixD (Zac 4) (eC (.int 3))) (eCB Zct (Zab (eOp ixD (Zac 0) (eC (.int 1))) Zaf))) Zaf))))
 Zak)) Zak)
 Yad)))
nonrec def Zdd:FF:=Zbd 5 10 Zbt
nonrec def Zbn:SF :=
 (Zag (Zbg 5 (Zd3 Zaf))
 (Zag (Zbg 6 (Zd3 Zaf))
 (Zag (Zbg 7 (eLC (iSq (Zal 1 Zcy (Zab (eCB Zct (Zab (eOp ixD (Zac 0) (eC (.int 0))) Zaf)) Zaf))) [0] (tNo (Zg7 (Zal 2 Zci (Zab (eOp ixD (Zac 1) (eC (.int 1))) (Zab (Zac 0) Zaf))))) (Zac 0)))
 (Zag (Zew (iR1 (Zab (Zac 4) Zaf)) (gNm 8) (Zag (Zbg 9 (eSl (Zal 2 Zcf (Zab (Zal 2 Zdw (Zab (Zac 2) (Zab (eOp Zb0 (Zac 3) (Zac 8)) Zaf))) (Zab (eC (.int 24)) Zaf))) (Ze2 (eC (.int 14))) Zfy))
 (Zag (Zbg 10 (Zal 5 Zdd (Zab (Zac 0) (Zab (Zac 1) (Zab (Zac 6) (Zab (Zac 7) (Zab (Zac 9) Zaf)))))))
 (Zag (sIf (tOf (eOp Yav (Zac 10) (eC .non))) (Zag (Zcj (eLM Zb1 (Zac 5) (Zab (Zac 10) Zaf)))
 (Zag (Zcj (eLM Zb1 (Zac 6) (Zab (Zal 4 Zg1 (Zab (Zac 0) (Zab (Zac 1) (Zab (Zac 6) (Zab (Zac 10) Zaf))))) Zaf)))
 Zak)) Zak)
 Zak))))
 (Zag (Zbl (Zac 5))
 Zak)))))
nonrec def Zcv:FF:=Zbd 5 11 Zbn
nonrec def Za6 (F:FF):SF :=
 (Zag (sIf (tOf (eOp eqD (eCB Zct (Zab (Zac 3) Zaf)) (eCB Zct (Zab (eOp ixD (Zac 0) (eC (.int 0))) Zaf)))) (Zag (Zbl (Zd3 (Zab (Zac 3) Zaf)))
 Zak) Zak)
 (Zag (sIf (tAn (tOf (eOp eqD (eOp ixD (eOp ixD (Zac 0) (eC (.int 0))) (eCB Zct (Zab (Zac 3) Zaf))) (Zac 1))) (tOf (eOp eqD (eOp ixD (Zac 2) (eC (.int 0))) (eC (.str "pick"))))) (Zag (Zbl (Zal 4 F (Zab (Zac 0) (Zab (Zac 1) (Zab (eOp ixD (Zac 2) (eC (.int 2))) (Zab (eOp Zb0 (Zac 3) (Zdi (Zab (eOp ixD (Zac 2) (eC (.int 1))) Zaf))) Zaf))))))
 Zak) Zak)
 (Zag (Zbg 4 (Zd3 (Zab (Zac 2) (Zab (Zac 2) Zaf))))
 (Zag (sIf (tOf (eOp eqD (eOp ixD (Zac 2) (eC (.int 0))) (eC (.str "each")))) (Zag (Zbg 4 (eSl (Zac 2) (Ze2 (eC (.int 1))) Zfy))
 Zak) Zak)
 (Zag (Zbg 5 (Zd3 (Zab (Zdi (Zab (eC (.bl false)) (Zab (eOp ixD (Zac 4) (eC (.int 0))) Zaf))) (Zab (Zdi (Zab (eC (.bl true)) (Zab (eOp ixD (Zac 4) (eC (.int 1))) Zaf))) Zaf))))
 (Zag (sIf (tAn (tOf (eOp eqD (eOp ixD (Zac 2) (eC (.int 0))) (eC (.str "lost")))) (tOf (eOp eqD (eOp ixD (eOp ixD (Zac 0) (eC (.int 0))) (eCB Zct (Zab (Zac 3) Zaf))) (Zac 1)))) (Zag (Zbg 5 (eLC (iSq (Zac 5)) [0,2,3] (tOf (eOp niD (eOp ixD (Zd3 (Zab (eOp Zb0 (eCB Zct (Zab (Zac 3) Zaf)) (eC (.int 1))) (Zab (eOp Zll (eOp Zll (eC (.int 0)) (eCB Zct (Zab (Zac 3) Zaf))) (eC (.int 1))) Zaf))) (eCB Zrn (Zab (eNo (eOp ixD (Zac 0) (eC (.int 0)))) Zaf))) (eOp ixD (eOp ixD (Zac 1) (eC (.int 1))) (eOp ixD (Zac 2) (eC (.int 1)))))) (Zac 0)))
 Zak) Zak)
 (Zag (Zbg 6 (Zd3 Zaf))
 (Zag (Zew (iSq (Zac 5)) (gTp 2 (gCn (gNm 7) (gCn (gNm 8) gNl))) (Zag (Zbg 6 (eOp Zb0 (Zac 6) (Zal 4 F (Zab (Zac 0) (Zab (Zac 1) (Zab (Zac 8) (Zab (eOp Zb0 (Zac 3) (Zdi (Zab (Zac 7) Zaf))) Zaf)))))))
 Zak))
 (Zag (Zbl (Zac 6))
 Zak)))))))))
nonrec def Zj8:FF:=Zlg 4 9 Za6 10
nonrec def Zb4:SF :=
 (Zag (Zbl (Zdi (Zab (Zdi (Zab (eC (.str "row")) (Zab (eOp ixD (Zac 0) (eC (.int 1))) Zaf))) (Zab (eOp ixD (eOp ixD (Zac 2) (eC (.int 1))) (eOp ixD (Zac 0) (eC (.int 1)))) Zaf))))
 Zak)
nonrec def Zdo:D->FF:=Yar 2 3 Zb4
nonrec def Zax (F1 F2:FF):SF :=
 (Zag (sIf (tOf (eOp eqD (eCB Zkn (Zab (Zac 1) Zaf)) (eC (.int 0)))) (Zag (Zbl (Zdi (Zab (eC (.str "some")) (Zab (Zdi (Zab (eC (.str "kept")) Zaf)) Zaf))))
 Zak) Zak)
 (Zag (Zbg 3 (Zal 2 Zde (Zab (Zac 0) (Zab (Zac 1) Zaf))))
 (Zag (sIf (tOf (eOp Yav (Zac 3) (eC .non))) (Zag (Zbl (Zdi (Zab (eC (.str "all")) (Zab (Zdi (Zab (eC (.str "lost")) (Zab (Zac 3) Zaf))) Zaf))))
 Zak) Zak)
 (Zag (Zbl (Zal 3 F2 (Zab (Zac 0) (Zab (Zac 1) (Zab (Zac 2) Zaf)))))
 Zak))))
nonrec def Zap (F1 F2:FF):SF :=
 (Zag (Zbg 3 (eOp ixD (Zac 0) (Zac 2)))
 (Zag (Zbg 4 (Zd3 Zaf))
 (Zag (Zew (iSq (eC k_TRUTHS)) (gNm 5) (Zag (Zbg 6 (Zal 3 F1 (Zab (Zac 0) (Zab (Zal 3 Za4 (Zab (Zac 1) (Zab (eOp Zb0 (Zac 2) (eC (.int 1))) (Zab (Zac 5) Zaf)))) (Zab (eOp Zb0 (Zac 2) (eC (.int 1))) Zaf)))))
 (Zag (sIf (tOf (eOp eqD (eOp ixD (Zac 6) (eC (.int 0))) (Zac 3))) (Zag (Zbl (Zdi (Zab (Zac 3) (Zab (Zdi (Zab (eC (.str "pick")) (Zab (Zac 5) (Zab (eOp ixD (Zac 6) (eC (.int 1))) Zaf)))) Zaf))))
 Zak) Zak)
 (Zag (Zcj (eLM Zb1 (Zac 4) (Zab (eOp ixD (Zac 6) (eC (.int 1))) Zaf)))
 Zak))))
 (Zag (Zbl (Zdi (Zab (Zal 1 Zbq (Zab (Zac 3) Zaf)) (Zab (Zdi (Zab (eC (.str "each")) (Zab (eOp ixD (Zac 4) (eC (.int 0))) (Zab (eOp ixD (Zac 4) (eC (.int 1))) Zaf)))) Zaf))))
 Zak))))
nonrec def Zkv:FF:=(Zem 3 4 3 7 Zax Zap 22).1
nonrec def Zm8:SF :=
 (Zag (Zbl (Zal 3 Zkv (Zab (eOp ixD (Zac 0) (eC (.int 0))) (Zab (Zal 1 Zbp (Zab (eOp ixD (Zac 0) (eC (.int 1))) Zaf)) (Zab (eC (.int 0)) Zaf)))))
 Zak)
nonrec def Zmd:FF:=Zbd 1 1 Zm8
nonrec def Zar (F1 F2:FF):SF :=
 (Zag (sIf (tOf (eOp eqD (eOp ixD (Zac 4) (eC (.int 0))) (eC (.str "pick")))) (Zag (Zcj (Zal 6 F1 (Zab (Zac 0) (Zab (Zac 1) (Zab (Zac 2) (Zab (Zac 3) (Zab (eOp ixD (Zac 4) (eC (.int 2))) (Zab (eOp Zb0 (Zac 5) (Zdi (Zab (eOp ixD (Zac 4) (eC (.int 1))) Zaf))) Zaf))))))))
 Zak) (Zag (sIf (tOf (eOp eqD (eOp ixD (Zac 4) (eC (.int 0))) (eC (.str "each")))) (Zag (Zcj (Zal 6 F2 (Zab (Zac 0) (Zab (Zac 1) (Zab (Zac 2) (Zab (Zac 3) (Zab (Zac 4) (Zab (Zac 5) Zaf))))))))
 Zak) (Zag (Zbg 6 (Zml 2 2 "row_paper" "claim" Zdo (Zab (Zac 4) (Zab (Zac 5) Zaf))))
 (Zag (Zcj (Zal 5 Zfo (Zab (Zac 0) (Zab (Zac 1) (Zab (Zac 3) (Zab (eOp ixD (Zac 6) (eC (.int 0))) (Zab (eOp ixD (Zac 6) (eC (.int 1))) Zaf)))))))
 Zak)))
 Zak))
 Zak)
nonrec def Zau (F1 F2:FF):SF :=
 (Zag (Zbg 6 (eOp Zb0 (eCB Zct (Zab (Zac 5) Zaf)) (eC (.int 1))))
 (Zag (Zbg 7 eDI)
 (Zag (Zew (Zwr (Zab (eC k_TRUTHS) (Zab (eSl (Zac 4) (Ze2 (eC (.int 1))) Zfy) Zaf))) (gTp 2 (gCn (gNm 10) (gCn (gNm 11) gNl))) (Zag (Zcj (Zal 6 F1 (Zab (Zac 0) (Zab (Zac 1) (Zab (Zac 2) (Zab (Zac 3) (Zab (Zac 11) (Zab (eOp Zb0 (Zac 5) (Zdi (Zab (Zac 10) Zaf))) Zaf))))))))
 (Zag (Zbg 12 (eOp ixD (eOp ixD (Zac 3) (eUn Zjv (eC (.int 1)))) (eC (.int 1))))
 (Zag (sIf (tAn (tOf (eOp niD (Zac 6) (Zac 12))) (tOf (eOp niD (eUn Zjv (Zac 6)) (Zac 12)))) (Zag Zz9
 Zak) Zak)
 (Zag (Zvj (eOp Zll (eCB Zct (Zab (Zac 3) Zaf)) (eC (.int 1))) (gSb (Zac 7) (eOp ixD (Zac 12) (eUn Zjv (eC (.int 1)))) Zq0))
 Zak)))))
 (Zag (Zbg 8 (eOp Zsb (Zac 7) (Zac 6)))
 (Zag (Zbg 9 (eOp Zsb (Zac 7) (eUn Zjv (Zac 6))))
 (Zag (Zcj (Zal 5 Zfo (Zab (Zac 0) (Zab (Zac 1) (Zab (Zac 3) (Zab (Zdi (Zab (eC (.str "joined")) (Zab (Zac 8) (Zab (Zac 9) (Zab (Zac 6) Zaf))))) (Zab (Zal 3 Zhz (Zab (eOp ixD (eOp ixD (Zac 3) (Zac 8)) (eC (.int 1))) (Zab (eOp ixD (eOp ixD (Zac 3) (Zac 9)) (eC (.int 1))) (Zab (Zac 6) Zaf)))) Zaf)))))))
 Zak))))))
nonrec def Zq7:FF:=(Zem 6 7 6 13 Zar Zau 22).1
nonrec def Zh5:SF :=
 (Zag (Zbg 3 (Zal 1 Zmd (Zab (Zac 0) Zaf)))
 (Zag (sIf (tOf (eOp neD (eOp ixD (Zac 3) (eC (.int 0))) (Zac 1))) (Zag Yad
 Zak) Zak)
 (Zag (Zbg 4 (Zd3 Zaf))
 (Zag (Zcj (Zal 6 Zq7 (Zab (eOp ixD (Zac 0) (eC (.int 0))) (Zab (Zac 1) (Zab (Zac 2) (Zab (Zac 4) (Zab (eOp ixD (Zac 3) (eC (.int 1))) (Zab (Zdi Zaf) Zaf))))))))
 (Zag (Zbl (Ya6 (iSq (Zac 4)) [] Zxp (Zac 0)))
 Zak)))))
nonrec def Zn3:FF:=Zbd 3 5 Zh5
nonrec def Zds:SF :=
 (Zag (sDef 0 1 0 "row_paper" "claim")
 (Zag (Zbl (Zal 3 Zn3 (Zab (Zac 0) (Zab (eC (.str "all")) (Zab (Zac 1) Zaf)))))
 Zak))
nonrec def Zf6:FF:=Zbd 1 2 Zds
nonrec def Zul:SF :=
 (Zag (Zbg 1 (Zal 2 Zf0 (Zab (Zac 0) (Zab (eC (.int 6)) Zaf))))
 (Zag (Zbg 2 (eSl (Zal 2 Zcf (Zab (Zal 2 Zdw (Zab (Zac 0) (Zab (eC (.int 1)) Zaf))) (Zab (eC (.int 40)) Zaf))) (Ze2 (eC (.int 28))) Zfy))
 (Zag (Zbg 3 (eOp Ze1 (Zal 1 Zdg (Zab (Zac 1) Zaf)) (Zdi Zaf)))
 (Zag (sIf (tOf (eOp neD (Zal 2 Zgk (Zab (Zac 1) (Zab (Zdi Zaf) Zaf))) (Zac 3))) (Zag (Zbl (eC (.bl false)))
 Zak) Zak)
 (Zag (Zbg 4 (Zal 2 Zgv (Zab (Zac 1) (Zab (Zal 5 Zcv (Zab (Zac 1) (Zab (eC (.str "all")) (Zab (Zac 0) (Zab (eC (.int 2)) (Zab (eOp Zfm (eOp ixD (Zac 2) (eC (.int 0))) (eC (.int 11))) Zaf)))))) Zaf))))
 (Zag (sIf (tOf (eOp eqD (Zac 3) (eC (.str "all")))) (Zag (Zbg 4 (eOp Zb0 (Zac 4) (Zal 2 Zgv (Zab (Zac 1) (Zab (Zal 1 Zf6 (Zab (Zac 1) Zaf)) Zaf)))))
 Zak) Zak)
 (Zag (Zew (iSq (Zd3 (Zab (eSl (eSl (Zac 4) (Ze2 (eOp Zfm (eOp ixD (Zac 2) (eC (.int 1))) (eCB Ycp (Zab (eC (.int 1)) (Zab (eCB Zct (Zab (Zac 4) Zaf)) Zaf))))) Zfy) Zfy (Ze2 (eC (.int 1)))) (Zab (Zac 4) Zaf)))) (gNm 5) (Zag (Zbg 6 (Zdi (Zab (eOp ixD (Zac 1) (eC (.int 0))) (Zab (eOp Zb0 (eOp ixD (Zac 1) (eC (.int 1))) (eCB Zd7 (Zab (Zac 5) Zaf))) Zaf))))
 (Zag (sIf (Zlm (tOf (eOp neD (Zal 2 Zgk (Zab (Zac 6) (Zab (Zdi Zaf) Zaf))) (Zac 3))) (tOf (eOp neD (eOp Ze1 (Zal 1 Zdg (Zab (Zac 6) Zaf)) (Zdi Zaf)) (Zac 3)))) (Zag (Zbl (eC (.bl false)))
 Zak) Zak)
 Zak)))
 (Zag (sIf (tOf (eOp eqD (Zac 3) (eC (.str "some")))) (Zag (Zew (iSq (Zal 4 Zj8 (Zab (Zac 1) (Zab (eC (.str "some")) (Zab (eOp ixD (Zal 1 Zmd (Zab (Zac 1) Zaf)) (eC (.int 1))) (Zab (Zdi Zaf) Zaf)))))) (gNm 7) (Zag (sIf (Zg7 (Zal 2 Zci (Zab (Zac 4) (Zab (Zac 7) Zaf)))) (Zag (Zbl (eC (.bl false)))
 Zak) Zak)
 Zak))
 Zak) Zak)
 (Zag (Zbl (eC (.bl true)))
 Zak)))))))))
nonrec def Zqf:FF:=Zbd 1 8 Zul
end K08
set_option maxHeartbeats 4000000
namespace K08
open PySem L2 DL LH
nonrec def opn (bs:List Bool) (l:Int):Bool:=decide ((bs.length:Int)<Zas l)
nonrec def rig (bs:List Bool) (l:Int):Bool:=match bs[(Zas l - 1).toNat]? with
 | some b=>b==decide (0<l)
 | none=>false
nonrec def kept (bs:List Bool) (ls:List Int):Bool:=ls.any (rig bs)
nonrec def rest (bs:List Bool) (ls:List Int):List Int:=ls.filter (opn bs)
nonrec def Zfd (b:Int):List Int->List Int
 | []=>[]
 | l::r=>if Zas l=b+1 then r else l::r
nonrec def Zjk (b:Int) (t:Bool):List Int->Bool
 | []=>false
 | l::_=>decide (Zas l=b+1)&&(t==decide (0<l))
theorem Zfz {m:Int} (bs:List Bool):∀ (ls:List Int) (last:Int),Up m last ls->(bs.length:Int)<=last->rest bs ls=ls/\kept bs ls=false
 | [],_,_,_=>⟨rfl,rfl⟩
 | l::r,last,u,h=>by
  obtain⟨h1,h2,h3⟩:=u
  obtain⟨a,b⟩:=Zfz bs r (Zas l) h3 (by omega)
  have o:opn bs l=true:=decide_eq_true (by omega)
  have g:rig bs l=false:=by
   unfold rig
   rw[Weq (by omega)]
  refine⟨?_,?_⟩
  ·unfold rest; rw[Wbq o]; exact congrArg _ a
  ·unfold kept; rw[Wcx,g]; exact b
theorem Zyk {bs:List Bool} {t:Bool} {l:Int} (h:Zas l<=bs.length) (h0:0<Zas l):rig (bs++[t]) l=rig bs l:=by
 unfold rig
 rw[Xg (by omega)]
theorem Zf3 {m:Int} (bs:List Bool) (t:Bool):∀ (ls:List Int) (last:Int),0<=last->Up m last ls->rest (bs++[t]) ls=Zfd bs.length (rest bs ls)/\kept (bs++[t]) ls=(kept bs ls||Zjk bs.length t (rest bs ls))
 | [],_,_,_=>⟨rfl,rfl⟩
 | l::r,last,h0,u=>by
  obtain⟨h1,h2,h3⟩:=u
  have la:(((bs++[t]).length:Nat):Int)=bs.length+1:=by simp
  by_cases c1:Zas l<=bs.length
  ·obtain⟨a,b⟩:=Zf3 bs t r (Zas l) (by omega) h3
   have o1:opn bs l=false:=decide_eq_false (by omega)
   have o2:opn (bs++[t]) l=false:=decide_eq_false (by rw[la]; omega)
   have e:rest bs (l::r)=rest bs r:=by unfold rest; rw[Waz (by rw[o1]; simp)]
   have e':rest (bs++[t]) (l::r)=rest (bs++[t]) r:=by unfold rest; rw[Waz (by rw[o2]; simp)]
   rw[e,e']
   refine⟨a,?_⟩
   have k:∀ cs,kept cs (l::r)=(rig cs l||kept cs r):=fun cs=>by unfold kept; rw[Wcx]
   rw[k,k,Zyk c1 (by omega),b,Bool.or_assoc]
  ·have o1:opn bs l=true:=decide_eq_true (by omega)
   obtain⟨a1,a2⟩:=Zfz bs r (Zas l) h3 (by omega)
   have e:rest bs (l::r)=l::r:=by unfold rest; rw[Wbq o1]; exact congrArg _ a1
   have g1:rig bs l=false:=by unfold rig; rw[Weq (by omega)]
   have k:∀ cs,kept cs (l::r)=(rig cs l||kept cs r):=fun cs=>by unfold kept; rw[Wcx]
   by_cases c2:Zas l=bs.length+1
   ·obtain⟨b1,b2⟩:=Zfz (bs++[t]) r (Zas l) h3 (by rw[la]; omega)
    have o2:opn (bs++[t]) l=false:=decide_eq_false (by rw[la]; omega)
    have e':rest (bs++[t]) (l::r)=r:=by unfold rest; rw[Waz (by rw[o2]; simp)]; exact b1
    have g2:rig (bs++[t]) l=(t==decide (0<l)):=by
     unfold rig
     have:(Zas l - 1).toNat=bs.length:=by omega
     rw[this]; simp
    rw[e,e',k,k,g1,g2,a2,b2]
    refine⟨by simp[Zfd,c2],by simp[Zjk,c2]⟩
   ·obtain⟨b1,b2⟩:=Zfz (bs++[t]) (l::r) (Zas l - 1) ⟨by omega,h2,h3⟩ (by rw[la]; omega)
    rw[e,b1,k bs,g1,a2,b2]
    refine⟨by simp[Zfd,c2],by simp[Zjk,c2]⟩
theorem Zp8:∀ ls:List Int,Zkh (ls.map .int)=some ls
 | []=>rfl
 | l::r=>by simp[Zkh,nkOf,Zp8 r]
theorem Zed (ls:List Int):nk (Zay ls)=some ls:=Zp8 ls
theorem Zvt {kvs:List (D×D)} {kd vd:D} {k k':List Int} (h:nk kd=some k) (h0:Zbh kvs k=none):(Zbh (Znq kvs kd k vd) k').isSome=((Zbh kvs k').isSome||decide (k'=k)):=by
 have e:Znq kvs kd k vd=kvs++[(kd,vd)]:=by unfold Znq; rw[h0]; rfl
 rw[e]
 unfold Zbh
 rw[List.find?_append]
 cases q:kvs.find? (fun p=>nk p.1==some k') with
 | some p=>simp
 | none =>
  by_cases c:k'=k
  ·subst c; simp[h]
  ·have:(nk kd==some k')=false:=by rw[h]; simp; exact fun z=>c z.symm
   simp[Wbz,this,c]
structure DR (rss:List (List Int)) (bs:List Bool) (kvs:List (D×D)):Prop where
 key:∀ p∈kvs,∃ ls∈rss,kept bs ls=false/\p.1=Zay (rest bs ls)
 all:∀ ls∈rss,kept bs ls=false->(Zbh kvs (rest bs ls)).isSome=true
 len:kvs.length<=rss.length
 val:∀ p∈kvs,∃ (i:Nat) (ls:List Int),rss[i]? = some ls/\kept bs ls=false/\p=(Zay (rest bs ls),.int i)
structure Fz (H H':HD):Prop where
 old:∀ (m:Nat) (o:DO),H[m]? = some o->H'[m]? = some o\/∃ kvs,o=.dic kvs false/\H'[m]? = some (.dic kvs true)
 len:H.length<=H'.length
theorem Fz.refl {H:HD}:Fz H H:=⟨fun _ _ h=>.inl h,Xd _⟩
theorem Fz.trans {H H1 H2:HD} (a:Fz H H1) (b:Fz H1 H2):Fz H H2:=by
 refine⟨fun m o h=>?_,Waf a.len b.len⟩
 rcases a.old m o h with h1 | ⟨kvs,rfl,h1⟩
 ·exact b.old m o h1
 ·rcases b.old m _ h1 with h2 | ⟨k2,e,_⟩
  ·exact .inr ⟨kvs,rfl,h2⟩
  ·cases e
theorem Fz.app {H:HD} (L:HD):Fz H (H++L):=⟨fun m o q=>.inl (by
 have:m<H.length:=(Xc.mp q).1
 rw[Xg this]; exact q),by simp⟩
theorem Fz.dic {H H':HD} (x:Fz H H') {m:Nat} {kvs:List (D×D)} {fz:Bool} (h:H[m]? = some (.dic kvs fz)):∃ fz',H'[m]? = some (.dic kvs fz'):=by
 rcases x.old m _ h with h1 | ⟨k2,e,h1⟩
 ·exact⟨fz,h1⟩
 ·cases e; exact⟨true,h1⟩
theorem dm {g:D->List D->HD->Option (D×HD)} {fo:EF} {f:AF} {σ:SD} {H H1 H2:HD} {o:D} {ds:List D} {r:Option (D×HD)} (h1:fo σ H=some (o,H1)) (hd:Zn5 o H1=true) (h2:f σ H1=some (ds,H2)) (h3:g o ds H2=r):eDM g fo f σ H=r:=by
 unfold eDM; rw[h1]; simp only[Zb]; rw[if_pos hd,h2]; exact h3
theorem ex {f:EF} {σ:SD} {H H1:HD} {d:D} (h:f σ H=some (d,H1)):Zcj f σ H=some (.nx,σ,H1):=by unfold Zcj; rw[h]; rfl
nonrec def Zhj (acc:List (D×D)) (k:List Int) (v:D):List (D×D):=if (Zbh acc k).isSome=true then acc else acc++[(Zay k,v)]
theorem Zou {q:Nat} {acc:List (D×D)} {k:List Int} {v:D} {H:HD} (h:H[q]? = some (.dic acc false)) (hl:acc.length<=100000):∃ z,Zjq (.ref q) [Zay k,v] H=some (z,H.set q (.dic (Zhj acc k v) false)):=by
 have sz:acc.length<sizeLine:=by rw[Uy]; omega
 unfold Zjq
 simp only[h,Zed,Zb,if_pos sz]
 cases e:Zbh acc k with
 | some z =>
  refine⟨z,?_⟩
  have:Zhj acc k v=acc:=by unfold Zhj; rw[e]; rfl
  rw[this]
  obtain⟨h1,h2⟩:=Xc.mp h
  rw[<- h2,Wci h1]
 | none =>
  refine⟨v,?_⟩
  have e1:Znq acc (Zay k) k v=acc++[(Zay k,v)]:=by unfold Znq; rw[e]; rfl
  have e2:Zhj acc k v=acc++[(Zay k,v)]:=by unfold Zhj; rw[e]; rfl
  rw[e1,e2]
theorem Zhx {acc:List (D×D)} {k k':List Int} {v:D}:(Zbh (Zhj acc k v) k').isSome=((Zbh acc k').isSome||decide (k'=k)):=by
 unfold Zhj
 cases e:Zbh acc k with
 | some z =>
  rw[if_pos (by simp)]
  by_cases c:k'=k
  ·subst c; rw[e]; rfl
  ·simp[c]
 | none =>
  have:=Zvt (kvs:=acc) (kd:=Zay k) (vd:=v) (k:=k) (k':=k') (Zed k) e
  have e1:Znq acc (Zay k) k v=acc++[(Zay k,v)]:=by unfold Znq; rw[e]; rfl
  rw[e1] at this
  rw[if_neg (by simp)]; exact this
theorem Zrq (acc:List (D×D)) (k:List Int) (v:D):(Zhj acc k v).length<=acc.length+1:=by unfold Zhj; split<;>simp
theorem Ztp {acc:List (D×D)} {k:List Int} {v:D} {p:D×D} (h:p∈Zhj acc k v):p∈acc\/p.1=Zay k:=by
 unfold Zhj at h
 split at h
 ·exact .inl h
 ·rcases Xv.mp h with h | h
  ·exact .inl h
  ·simp at h; subst h; exact .inr rfl
theorem Zo5 {acc:List (D×D)} {k:List Int} {v:D} {p:D×D} (h:p∈Zhj acc k v):p∈acc\/p=(Zay k,v):=by
 unfold Zhj at h
 split at h
 ·exact .inl h
 ·rcases Xv.mp h with h | h
  ·exact .inl h
  ·simp at h; subst h; exact .inr rfl
nonrec abbrev fb:SF:=(Zag (Zcj (eDM Zjq (Zac 1) (Zab (Zac 3) (Zab (Zac 2) Zaf)))) Zak)
theorem Zj1 {q:Nat} {r:D}:∀ (rss:List (List Int)) (c:Int) (acc:List (D×D)) (H:HD) (z2 z3:Option D),H[q]? = some (.dic acc false)->acc.length+rss.length<=100000 ->
  ∃ (acc':List (D×D)) (z2' z3':Option D),Zfr [] (gTp 2 (gCn (gNm 2) (gCn (gNm 3) gNl))) fb (Zcs c (rss.map Zay)) [some r,some (.ref q),z2,z3] H=some (.nx,[some r,some (.ref q),z2',z3'],H.set q (.dic acc' false)) /\
   (∀ p∈acc',p∈acc\/∃ ls∈rss,p.1=Zay ls)/\(∀ k,(Zbh acc k).isSome=true->(Zbh acc' k).isSome=true)/\(∀ ls∈rss,(Zbh acc' ls).isSome=true)/\acc'.length<=acc.length+rss.length/\(∀ p∈acc',p∈acc\/∃ (i:Nat) (ls:List Int),rss[i]? = some ls/\p=(Zay ls,.int (c+i)))
 | [],c,acc,H,z2,z3,hq,_=>by
  obtain⟨h1,h2⟩:=Xc.mp hq
  refine⟨acc,z2,z3,?_,fun p hp=>.inl hp,fun _ h=>h,by simp,by simp,fun p hp=>.inl hp⟩
  rw[Wde,Zcs,Zfr,if_pos Zhh,<- h2,Wci h1]
 | ls::rss,c,acc,H,z2,z3,hq,hl=>by
  rw[Xq,Zcs,Zfr,if_pos Zhh]
  simp only[gTp,Wdg,Wav,gCn,gNm,gNl,Wff,Zb,if_true,Wcj,Nat.reduceAdd]
  obtain⟨z,es⟩:=Zou (k:=ls) (v:=.int c) hq (by omega)
  have lt:=(Xc.mp hq).1
  have st:fb [some r,some (.ref q),some (.int c),some (Zay ls)] H=some (.nx,[some r,some (.ref q),some (.int c),some (Zay ls)],H.set q (.dic (Zhj acc ls (.int c)) false)) :=
   (Zce (ex (dm (vr rfl) (by simp[Zn5,hq]) (ac (vr rfl) (ac (vr rfl) an)) es))).trans rfl
  rw[st]
  simp only[Zb]
  have al:=Zrq acc ls (.int c)
  obtain⟨acc',z2',z3',e,a1,a2,a3,a4,a5⟩:=Zj1 (q:=q) (r:=r) rss (c+1) (Zhj acc ls (.int c)) (H.set q (.dic (Zhj acc ls (.int c)) false)) (some (.int c)) (some (Zay ls)) (by rw[Wbd lt]) (by simp at hl ⊢; omega)
  refine⟨acc',z2',z3',by rw[e,List.set_set],fun p hp=>?_,fun k hk=>a2 k (by rw[Zhx,hk]; rfl),fun l hl'=>?_,by omega,fun p hp=>?_⟩
  ·rcases a1 p hp with h | ⟨l,h1,h2⟩
   ·rcases Ztp h with h | h
    ·exact .inl h
    ·exact .inr ⟨ls,by simp,h⟩
   ·exact .inr ⟨l,by simp[h1],h2⟩
  ·rcases Xh.mp hl' with rfl | hl'
   ·exact a2 _ (by rw[Zhx]; simp)
   ·exact a3 l hl'
  ·rcases a5 p hp with h | ⟨i,l,h1,h2⟩
   ·rcases Zo5 h with h | h
    ·exact .inl h
    ·exact .inr ⟨0,ls,rfl,by rw[h]; simp⟩
   ·exact .inr ⟨i+1,l,by simpa using h1,by rw[h2]; simp; omega⟩
theorem Zo8 {rss:List (List Int)} {m:Int} (hu:∀ ls∈rss,Up m 0 ls) (hl:rss.length<=1000) (H:HD) :
  ∃ (kvs:List (D×D)) (H':HD) (q:Nat),Zbp [.tup (rss.map Zay)] H=some (.ref q,H')/\H'[q]? = some (.dic kvs false)/\DR rss [] kvs/\Fz H H':=by
 have s1:Zbg 1 eDN [some (.tup (rss.map Zay)),none,none,none] H=some (.nx,[some (.tup (rss.map Zay)),some (.ref H.length),none,none],H++[.dic [] false]):=rfl
 obtain⟨kvs,z2,z3,e,a1,a2,a3,a4,a5⟩:=Zj1 (q:=H.length) (r:=.tup (rss.map Zay)) rss 0 [] (H++[.dic [] false]) none none (by simp) (by simp; omega)
 have e1:Zew (Znu (Zab (Zac 0) Zaf)) (gTp 2 (gCn (gNm 2) (gCn (gNm 3) gNl))) fb [some (.tup (rss.map Zay)),some (.ref H.length),none,none] (H++[.dic [] false])=some (.nx,[some (.tup (rss.map Zay)),some (.ref H.length),z2,z3],(H++[DO.dic [] false]).set H.length (DO.dic kvs false)):=by
  unfold Zew Znu
  rw[ac (vr rfl) an]
  exact e
 have es:(H++[DO.dic [] false]).set H.length (.dic kvs false)=H++[.dic kvs false]:=by simp
 rw[es] at e1
 refine⟨kvs,H++[.dic kvs false],H.length,?_,by simp,⟨fun p hp=>?_,fun ls hls _=>?_,by simpa using a4,fun p hp=>?_⟩,Fz.app _⟩
 ·show ((Zb2 [some (.tup (rss.map Zay)),none,none,none] H).bind _)=_
  unfold Zb2
  rw[Zce s1,Zce e1]
  rfl
 ·rcases a1 p hp with h | ⟨ls,h1,h2⟩
  ·simp at h
  ·obtain⟨o1,o2⟩:=Zfz [] ls 0 (hu ls h1) (by simp)
   exact⟨ls,h1,o2,by rw[o1]; exact h2⟩
 ·obtain⟨o1,o2⟩:=Zfz [] ls 0 (hu ls hls) (by simp)
  rw[o1]; exact a3 ls hls
 ·rcases a5 p hp with h | ⟨i,ls,h1,h2⟩
  ·simp at h
  ·obtain⟨o1,o2⟩:=Zfz [] ls 0 (hu ls (Xu h1)) (by simp)
   exact⟨i,ls,h1,o2,by rw[o1,h2]; simp⟩
nonrec def hd0:List Int->Int
 | []=>0
 | l::_=>l
theorem act {b:Int} {t:Bool} {ls:List Int} (hb:0<=b) :
  (hd0 ls = -(if t=true then b+1 else -(b+1))->Zjk b t ls=false/\Zfd b ls=ls.drop 1) /\
  (hd0 ls ≠ -(if t=true then b+1 else -(b+1))->hd0 ls≠(if t=true then b+1 else -(b+1))->Zjk b t ls=false/\Zfd b ls=ls) /\
  (hd0 ls ≠ -(if t=true then b+1 else -(b+1))->hd0 ls=(if t=true then b+1 else -(b+1))->Zjk b t ls=true):=by
 cases ls with
 | nil =>
  refine⟨fun h=>?_,fun _ _=>⟨rfl,rfl⟩,fun _ h=>?_⟩
  ·simp only[hd0] at h; split at h<;>omega
  ·simp only[hd0] at h; split at h<;>omega
 | cons l r =>
  simp only[hd0,Zjk,Zfd,List.drop_one,List.tail_cons]
  cases t with
  | true =>
   simp only[if_true]
   refine⟨fun h=>?_,fun h1 h2=>?_,fun h1 h2=>?_⟩
   ·have e:Zas l=b+1:=by unfold Zas; split<;>omega
    have g:decide (0<l)=false:=decide_eq_false (by omega)
    rw[g,if_pos e]; simp
   ·have e:Zas l≠b+1:=by unfold Zas; split<;>omega
    rw[if_neg e,decide_eq_false e]; simp
   ·have e:Zas l=b+1:=by unfold Zas; split<;>omega
    have g:decide (0<l)=true:=decide_eq_true (by omega)
    rw[g,decide_eq_true e]; rfl
  | false =>
   simp only[Wan,if_false]
   refine⟨fun h=>?_,fun h1 h2=>?_,fun h1 h2=>?_⟩
   ·have e:Zas l=b+1:=by unfold Zas; split<;>omega
    have g:decide (0<l)=true:=decide_eq_true (by omega)
    rw[g,if_pos e]; simp
   ·have e:Zas l≠b+1:=by unfold Zas; split<;>omega
    rw[if_neg e,decide_eq_false e]; simp
   ·have e:Zas l=b+1:=by unfold Zas; split<;>omega
    have g:decide (0<l)=false:=decide_eq_false (by omega)
    rw[g,decide_eq_true e]; rfl
nonrec abbrev bb:SF:=(Zag (Zbg 6 (eIf (Zg7 (Zac 5)) (eOp ixD (Zac 5) (eC (.int 0))) (eC (.int 0))))
 (Zag (sIf (tOf (eOp eqD (Zac 6) (eUn Zjv (Zac 3)))) (Zag (Zcj (eDM Zjq (Zac 4) (Zab (eSl (Zac 5) (Ze2 (eC (.int 1))) Zfy) (Zab (eOp Ze1 (Zac 0) (Zac 5)) Zaf))))
 Zak) (Zag (sIf (tOf (eOp neD (Zac 6) (Zac 3))) (Zag (Zcj (eDM Zjq (Zac 4) (Zab (Zac 5) (Zab (eOp Ze1 (Zac 0) (Zac 5)) Zaf))))
 Zak) Zak)
 Zak))
 Zak))
theorem un {g:D->HD->Option (D×HD)} {f:EF} {σ:SD} {H H1:HD} {d:D} {r:Option (D×HD)} (h1:f σ H=some (d,H1)) (h2:g d H1=r):eUn g f σ H=r:=by
 unfold eUn; rw[h1]; exact h2
theorem bb_ok {p q:Nat} {kvs acc:List (D×D)} {b:Int} {t:Bool} {a1 a2 z6:Option D} {ls:List Int} {H:HD} (hb:0<=b) (hp:H[p]? = some (.dic kvs true)) (hq:H[q]? = some (.dic acc false)) (hl:acc.length<=100000) (hk:(Zbh kvs ls).isSome=true) :
  ∃ (v:D) (z6':Option D),Zbh kvs ls=some v/\bb [some (.ref p),a1,a2,some (.int (if t=true then b+1 else -(b+1))),some (.ref q),some (Zay ls),z6] H=some (.nx,[some (.ref p),a1,a2,some (.int (if t=true then b+1 else -(b+1))),some (.ref q),some (Zay ls),z6'],H.set q (.dic (if Zjk b t ls=true then acc else Zhj acc (Zfd b ls) v) false)):=by
 let R:Int:=if t=true then b+1 else -(b+1)
 obtain⟨v,ev⟩:=Waj.mp hk
 have self:H.set q (.dic acc false)=H:=by
  obtain⟨h1,h2⟩:=Xc.mp hq
  rw[<- h2,Wci h1]
 have s1:Zbg 6 (eIf (Zg7 (Zac 5)) (eOp ixD (Zac 5) (eC (.int 0))) (eC (.int 0))) [some (.ref p),a1,a2,some (.int R),some (.ref q),some (Zay ls),z6] H=some (.nx,[some (.ref p),a1,a2,some (.int R),some (.ref q),some (Zay ls),some (.int (hd0 ls))],H):=by
  refine Znl (d:=.int (hd0 ls)) ?_
  have tv:Zg7 (Zac 5) [some (.ref p),a1,a2,some (.int R),some (.ref q),some (Zay ls),z6] H=some (!ls.isEmpty,H):=by
   unfold Zg7; rw[vr (d:=Zay ls) rfl]; simp[Zay,Zuv]
  unfold eIf
  rw[tv]
  cases ls with
  | nil=>rfl
  | cons l r =>
   have:atI ((l::r).map D.int) 0=some (.int l):=Zbx (j:=0) rfl
   show eOp ixD (Zac 5) (eC (.int 0)) [some (.ref p),a1,a2,some (.int R),some (.ref q),some (Zay (l::r)),z6] H=some (.int l,H)
   exact op (vr rfl) rfl (ixT this)
 let σ:SD:=[some (.ref p),a1,a2,some (.int R),some (.ref q),some (Zay ls),some (.int (hd0 ls))]
 have dg:eOp Ze1 (Zac 0) (Zac 5) σ H=some (v,H):=by
  refine op (vr rfl) (vr rfl) ?_
  simp[Ze1,Zvi,hp,Zed,ev]
 have t1:tOf (eOp eqD (Zac 6) (eUn Zjv (Zac 3))) σ H=some (hd0 ls == -R,H):=tof (op (vr rfl) (un (vr rfl) rfl) (Zs2 _ _ _))
 have t2:tOf (eOp neD (Zac 6) (Zac 3)) σ H=some (!(hd0 ls==R),H):=tof (op (vr rfl) (vr rfl) (Ya4 _ _ _))
 have id1:Zn5 (.ref q) H=true:=by simp[Zn5,hq]
 obtain⟨A1,A2,A3⟩:=act (b:=b) (t:=t) (ls:=ls) hb
 refine⟨v,some (.int (hd0 ls)),ev,?_⟩
 show bb [some (.ref p),a1,a2,some (.int R),some (.ref q),some (Zay ls),z6] H=some (.nx,σ,_)
 unfold bb
 rw[Zce s1]
 by_cases c1:hd0 ls = -R
 ·obtain⟨h1,h2⟩:=A1 c1
  have sd:slD (Zay ls) (some 1) none H=some (Zay (ls.drop 1),H):=by
   have:=sllo (xs:=ls.map D.int) (k:=1) (H:=H)
   rw[<- Wcy] at this
   exact this
  obtain⟨z,es⟩:=Zou (k:=ls.drop 1) (v:=v) hq hl
  rw[h1,if_neg (by simp),h2]
  refine(Zce (σ1:=σ) (H1:=H.set q (.dic (Zhj acc (ls.drop 1) v) false)) ?_).trans rfl
  rw[Znc t1,if_pos (by simpa using c1)]
  exact(Zce (ex (dm (vr rfl) id1 (ac (sl (vr rfl) (os rfl) on sd) (ac dg an)) es))).trans rfl
 ·by_cases c2:hd0 ls=R
  ·rw[A3 c1 c2,if_pos rfl,self]
   refine(Zce (σ1:=σ) (H1:=H) ?_).trans rfl
   rw[Znc t1,if_neg (by simpa using c1)]
   refine(Zce (σ1:=σ) (H1:=H) ?_).trans rfl
   rw[Znc t2,if_neg (by simpa using c2)]
   rfl
  ·obtain⟨h1,h2⟩:=A2 c1 c2
   obtain⟨z,es⟩:=Zou (k:=ls) (v:=v) hq hl
   rw[h1,if_neg (by simp),h2]
   refine(Zce (σ1:=σ) (H1:=H.set q (.dic (Zhj acc ls v) false)) ?_).trans rfl
   rw[Znc t1,if_neg (by simpa using c1)]
   refine(Zce (σ1:=σ) (H1:=H.set q (.dic (Zhj acc ls v) false)) ?_).trans rfl
   rw[Znc t2,if_pos (by simpa using c2)]
   exact(Zce (ex (dm (vr rfl) id1 (ac (vr rfl) (ac dg an)) es))).trans rfl
theorem Zt1 {p q:Nat} {kvs:List (D×D)} {b:Int} {t:Bool} {a1 a2:Option D} (hb:0<=b) (hpq:p≠q):∀ (qs:List (List Int)) (acc:List (D×D)) (H:HD) (z5 z6:Option D),H[p]? = some (.dic kvs true)->H[q]? = some (.dic acc false)->acc.length+qs.length<=100000->(∀ ls∈qs,(Zbh kvs ls).isSome=true) ->
  ∃ (acc':List (D×D)) (z5' z6':Option D),Zfr [(p,.dic kvs true)] (gNm 5) bb (qs.map Zay) [some (.ref p),a1,a2,some (.int (if t=true then b+1 else -(b+1))),some (.ref q),z5,z6] H=some (.nx,[some (.ref p),a1,a2,some (.int (if t=true then b+1 else -(b+1))),some (.ref q),z5',z6'],H.set q (.dic acc' false)) /\
   (∀ x∈acc',x∈acc\/∃ ls∈qs,Zjk b t ls=false/\x.1=Zay (Zfd b ls))/\(∀ k,(Zbh acc k).isSome=true->(Zbh acc' k).isSome=true)/\(∀ ls∈qs,Zjk b t ls=false->(Zbh acc' (Zfd b ls)).isSome=true)/\acc'.length<=acc.length+qs.length/\(∀ x∈acc',x∈acc\/∃ ls∈qs,Zjk b t ls=false/\x.1=Zay (Zfd b ls)/\Zbh kvs ls=some x.2)
 | [],acc,H,z5,z6,hp,hq,_,_=>by
  obtain⟨h1,h2⟩:=Xc.mp hq
  refine⟨acc,z5,z6,?_,fun p hp=>.inl hp,fun _ h=>h,by simp,by simp,fun p hp=>.inl hp⟩
  rw[Wde,Zfr,if_pos (by intro x hx; simp at hx; subst hx; exact hp),<- h2,Wci h1]
 | ls::qs,acc,H,z5,z6,hp,hq,hl,hk=>by
  have lt:=(Xc.mp hq).1
  rw[Xq,Zfr,if_pos (by intro x hx; simp at hx; subst hx; exact hp)]
  simp only[gNm,Wff,Zb]
  obtain⟨v,z6',ev,e1⟩:=bb_ok (t:=t) (a1:=a1) (a2:=a2) (z6:=z6) (ls:=ls) hb hp hq (by omega) (hk ls (by simp))
  rw[e1]
  simp only[Zb]
  let acc1:=if Zjk b t ls=true then acc else Zhj acc (Zfd b ls) v
  have al:acc1.length<=acc.length+1:=by
   show (if Zjk b t ls=true then acc else Zhj acc (Zfd b ls) v).length<=_
   split
   ·omega
   ·exact Zrq _ _ _
  obtain⟨acc',z5',z6'',e,a1',a2',a3',a4',a5'⟩:=Zt1 (p:=p) (q:=q) (kvs:=kvs) (t:=t) (a1:=a1) (a2:=a2) hb hpq qs acc1 (H.set q (.dic acc1 false)) (some (Zay ls)) z6' (by rw[Wal (Uo hpq)]; exact hp) (by rw[Wbd lt]) (by simp at hl ⊢; omega) (fun l hl=>hk l (by simp[hl]))
  have mono:∀ k,(Zbh acc k).isSome=true->(Zbh acc1 k).isSome=true:=fun k hk=>by
   show (Zbh (if Zjk b t ls=true then acc else Zhj acc (Zfd b ls) v) k).isSome=true
   split
   ·exact hk
   ·rw[Zhx,hk]; rfl
  have lenF:acc'.length<=acc.length+(ls::qs).length:=by
   have e8:(ls::qs).length=qs.length+1:=rfl
   have e9:acc'.length<=acc1.length+qs.length:=a4'
   omega
  refine⟨acc',z5',z6'',by rw[e,List.set_set],fun x hx=>?_,fun k hk=>a2' k (mono k hk),fun l hl' hh=>?_,lenF,fun x hx=>?_⟩
  ·rcases a1' x hx with h | ⟨l,h1,h2⟩
   ·cases hc:Zjk b t ls with
    | true =>
     have:acc1=acc:=if_pos hc
     rw[this] at h; exact .inl h
    | false =>
     have:acc1=Zhj acc (Zfd b ls) v:=if_neg (by rw[hc]; simp)
     rw[this] at h
     rcases Ztp h with h | h
     ·exact .inl h
     ·exact .inr ⟨ls,by simp,hc,h⟩
   ·exact .inr ⟨l,by simp[h1],h2⟩
  ·rcases Xh.mp hl' with rfl | hl'
   ·refine a2' _ ?_
    have:acc1=Zhj acc (Zfd b l) v:=if_neg (by rw[hh]; simp)
    rw[this,Zhx]; simp
   ·exact a3' l hl' hh
  ·rcases a5' x hx with h | ⟨l,h1,h2⟩
   ·cases hc:Zjk b t ls with
    | true =>
     have:acc1=acc:=if_pos hc
     rw[this] at h; exact .inl h
    | false =>
     have:acc1=Zhj acc (Zfd b ls) v:=if_neg (by rw[hc]; simp)
     rw[this] at h
     rcases Zo5 h with h | h
     ·exact .inl h
     ·exact .inr ⟨ls,by simp,hc,by rw[h],by rw[h]; exact ev⟩
   ·exact .inr ⟨l,by simp[h1],h2⟩
theorem Ziz {kvs:List (D×D)} {k:List Int} (h:(Zbh kvs k).isSome=true):∃ p∈kvs,nk p.1=some k:=by
 unfold Zbh at h
 rw[Wfl] at h
 obtain⟨p,e⟩:=Waj.mp h
 exact⟨p,Wdz e,by have:=Wfw e; simpa using this⟩
theorem Znm {kvs:List (D×D)} {k:List Int} {p:D×D} (hp:p∈kvs) (h:nk p.1=some k):(Zbh kvs k).isSome=true:=by
 unfold Zbh
 rw[Wfl,List.find?_isSome]
 exact⟨p,hp,by simp[h]⟩
theorem Zo0 {kvs:List (D×D)} {k:List Int} {v:D} (h:Zbh kvs k=some v):∃ p∈kvs,nk p.1=some k/\p.2=v:=by
 unfold Zbh at h
 obtain⟨p,e,rfl⟩:=Zm h
 exact⟨p,Wdz e,by have:=Wfw e; simpa using this,rfl⟩
theorem Zrt {rss:List (List Int)} {bs:List Bool}:∀ {kvs:List (D×D)},(∀ p∈kvs,∃ ls∈rss,kept bs ls=false/\p.1=Zay (rest bs ls))->∃ qs:List (List Int),kvs.map (·.1)=qs.map Zay/\∀ q∈qs,∃ ls∈rss,kept bs ls=false/\q=rest bs ls
 | [],_=>⟨[],rfl,by simp⟩
 | p::kvs,h=>by
  obtain⟨ls,h1,h2,h3⟩:=h p (by simp)
  obtain⟨qs,e,g⟩:=Zrt (kvs:=kvs) fun x hx=>h x (by simp[hx])
  refine⟨rest bs ls::qs,by rw[Xq,Xq,e,h3],fun q hq=>?_⟩
  rcases Xh.mp hq with rfl | hq
  ·exact⟨ls,h1,h2,rfl⟩
  ·exact g q hq
theorem Zyq {a b:List Int} (h:Zay a=Zay b):a=b:=by
 have:=Zed a
 rw[h,Zed] at this
 exact(Xy.inj this).symm
theorem Zie {rss:List (List Int)} {m:Int} {bs:List Bool} {t:Bool} {kvs:List (D×D)} {fz:Bool} {p:Nat} {H:HD} (hu:∀ ls∈rss,Up m 0 ls) (hl:rss.length<=1000) (hp:H[p]? = some (.dic kvs fz)) (dr:DR rss bs kvs) :
  ∃ (kvs':List (D×D)) (H':HD) (q:Nat),Za4 [.ref p,.int ((bs.length:Int)+1),.bl t] H=some (.ref q,H')/\H'[q]? = some (.dic kvs' false)/\DR rss (bs++[t]) kvs'/\Fz H H':=by
 obtain⟨qs,eq,gq⟩:=Zrt dr.key
 let b:Int:=bs.length
 have hb:0<=b:=by show (0:Int)<=bs.length; omega
 let R:Int:=if t=true then b+1 else -(b+1)
 have ltp:=(Xc.mp hp).1
 have s1:Zbg 3 (eIf (Zg7 (Zac 2)) (Zac 1) (eUn Zjv (Zac 1))) [some (.ref p),some (.int (b+1)),some (.bl t),none,none,none,none] H=some (.nx,[some (.ref p),some (.int (b+1)),some (.bl t),some (.int R),none,none,none],H):=by
  refine Znl (d:=.int R) ?_
  cases t<;>rfl
 have s2:Zbg 4 eDN [some (.ref p),some (.int (b+1)),some (.bl t),some (.int R),none,none,none] H=some (.nx,[some (.ref p),some (.int (b+1)),some (.bl t),some (.int R),some (.ref H.length),none,none],H++[.dic [] false]):=rfl
 let H1:HD:=(H++[DO.dic [] false]).set p (DO.dic kvs true)
 have hp0:(H++[DO.dic [] false])[p]? = some (.dic kvs fz):=by rw[Xg ltp]; exact hp
 have hp1:H1[p]? = some (.dic kvs true):=by rw[Wbd (by simp; omega)]
 have hq1:H1[H.length]? = some (.dic [] false):=by rw[Wal (by omega)]; simp
 have lq:qs.length=kvs.length:=by have:=congrArg Wbo eq; simpa using this.symm
 have kk:∀ ls∈qs,(Zbh kvs ls).isSome=true:=fun ls hls=>by
  have:Zay ls∈kvs.map (·.1):=by rw[eq]; exact Wfa hls
  obtain⟨x,hx,ex⟩:=Xx.mp this
  exact Znm hx (by rw[ex,Zed])
 have dl:=dr.len
 obtain⟨acc,z5,z6,e,a1,a2,a3,a4,a5⟩:=Zt1 (p:=p) (q:=H.length) (kvs:=kvs) (b:=b) (t:=t) (a1:=some (.int (b+1))) (a2:=some (.bl t)) hb (by omega) qs [] H1 none none hp1 hq1 (by simp; omega) kk
 have e1:Zew (Zyo (Zac 0)) (gNm 5) bb [some (.ref p),some (.int (b+1)),some (.bl t),some (.int R),some (.ref H.length),none,none] (H++[.dic [] false])=some (.nx,[some (.ref p),some (.int (b+1)),some (.bl t),some (.int R),some (.ref H.length),z5,z6],H1.set H.length (.dic acc false)):=by
  unfold Zew Zyo
  rw[vr (d:=.ref p) rfl]
  simp only[Zb,hp0]
  rw[eq]
  exact e
 have lt1:H.length<H1.length:=(Xc.mp hq1).1
 refine⟨acc,H1.set H.length (.dic acc false),H.length,?_,by rw[Wbd lt1],⟨fun x hx=>?_,fun ls hls hk=>?_,?_,fun x hx=>?_⟩,⟨fun mm o ho=>?_,by simp[H1]⟩⟩
 ·show ((Zcm [some (.ref p),some (.int (b+1)),some (.bl t),none,none,none,none] H).bind _)=_
  unfold Zcm
  rw[Zce s1,Zce s2,Zce e1]
  rfl
 ·rcases a1 x hx with h | ⟨q,h1,h2,h3⟩
  ·simp at h
  ·obtain⟨ls,g1,g2,rfl⟩:=gq q h1
   obtain⟨n1,n2⟩:=Zf3 bs t ls 0 (Wck _) (hu ls g1)
   refine⟨ls,g1,?_,by rw[n1]; exact h3⟩
   rw[n2,g2]; exact h2
 ·obtain⟨n1,n2⟩:=Zf3 bs t ls 0 (Wck _) (hu ls hls)
  rw[n2,Bool.or_eq_false_iff] at hk
  obtain⟨x,hx,ex⟩:=Ziz (dr.all ls hls hk.1)
  have hm:x.1∈qs.map Zay:=by rw[<- eq]; exact Wfa hx
  obtain⟨q,hq,eqq⟩:=Xx.mp hm
  have:q=rest bs ls:=by rw[<- eqq,Zed] at ex; exact Xy.inj ex
  subst this
  rw[n1]
  exact a3 _ hq hk.2
 ·simp at a4; omega
 ·rcases a5 x hx with h | ⟨q,h1,h2,h3,h4⟩
  ·simp at h
  ·obtain⟨y,y1,y2,y3⟩:=Zo0 h4
   obtain⟨i,ls,g1,g2,rfl⟩:=dr.val y y1
   have:q=rest bs ls:=by rw[Zed] at y2; exact(Xy.inj y2).symm
   subst this
   obtain⟨n1,n2⟩:=Zf3 bs t ls 0 (Wck _) (hu ls (Xu g1))
   exact⟨i,ls,g1,by rw[n2,g2]; exact h2,Prod.ext (by rw[n1]; exact h3) y3.symm⟩
 ·have lm:mm<H.length:=(Xc.mp ho).1
  rw[Wal (by omega)]
  by_cases c:p=mm
  ·subst c
   rw[hp] at ho
   cases ho
   cases fz with
   | true=>exact .inl hp1
   | false=>exact .inr ⟨kvs,rfl,hp1⟩
  ·refine .inl ?_
   show ((H++[DO.dic [] false]).set p (.dic kvs true))[mm]? = some o
   rw[Wal c,Xg lm]; exact ho
theorem Zmw {rss:List (List Int)} {m:Int} {r pl:D} (hu:∀ ls∈rss,Up m 0 ls) (hl:rss.length<=1000):∀ (ts bs:List Bool) (kvs:List (D×D)) (p:Nat) (fz:Bool) (H:HD) (z3 z4:Option D),H[p]? = some (.dic kvs fz)->DR rss bs kvs ->
  ∃ (kvs':List (D×D)) (H':HD) (q:Nat) (fz':Bool) (z3' z4':Option D),Zfr [] (gTp 2 (gCn (gNm 3) (gCn (gNm 4) gNl))) (Zag (Zbg 2 (Zal 3 Za4 (Zab (Zac 2) (Zab (Zac 3) (Zab (Zac 4) Zaf))))) Zak) (Zcs ((bs.length:Int)+1) (ts.map .bl)) [some r,some pl,some (.ref p),z3,z4] H=some (.nx,[some r,some pl,some (.ref q),z3',z4'],H')/\H'[q]? = some (.dic kvs' fz')/\DR rss (bs++ts) kvs'/\Fz H H'
 | [],bs,kvs,p,fz,H,z3,z4,hp,dr=>⟨kvs,H,p,fz,z3,z4,by rw[Wde,Zcs,Zfr,if_pos Zhh],hp,by rw[Waa]; exact dr,Fz.refl⟩
 | t::ts,bs,kvs,p,fz,H,z3,z4,hp,dr=>by
  rw[Xq,Zcs,Zfr,if_pos Zhh]
  simp only[gTp,Wdg,Wav,gCn,gNm,gNl,Wff,Zb,if_true,Wcj,Nat.reduceAdd]
  obtain⟨k1,H1,q1,e1,g1,d1,x1⟩:=Zie (t:=t) hu hl hp dr
  have st:(Zag (Zbg 2 (Zal 3 Za4 (Zab (Zac 2) (Zab (Zac 3) (Zab (Zac 4) Zaf))))) Zak) [some r,some pl,some (.ref p),some (.int ((bs.length:Int)+1)),some (.bl t)] H=some (.nx,[some r,some pl,some (.ref q1),some (.int ((bs.length:Int)+1)),some (.bl t)],H1) :=
   (Zce (Znl (ca (ac (vr rfl) (ac (vr rfl) (ac (vr rfl) an))) rfl e1))).trans rfl
  rw[st]
  simp only[Zb]
  obtain⟨k2,H2,q2,fz2,z3',z4',e2,g2,d2,x2⟩:=Zmw (r:=r) (pl:=pl) hu hl ts (bs++[t]) k1 q1 false H1 (some (.int ((bs.length:Int)+1))) (some (.bl t)) g1 d1
  have ec:(((bs++[t]).length:Nat):Int)+1=(bs.length:Int)+1+1:=by simp
  rw[ec] at e2
  refine⟨k2,H2,q2,fz2,z3',z4',e2,g2,?_,x1.trans x2⟩
  rw[Xw] at d2
  exact d2
theorem Zjp {rss:List (List Int)} {m:Int} {bs:List Bool} (hu:∀ ls∈rss,Up m 0 ls) (hl:rss.length<=1000) (H:HD) :
  ∃ (kvs:List (D×D)) (H':HD) (q:Nat) (fz:Bool),Zby [.tup (rss.map Zay),.tup (bs.map .bl)] H=some (.ref q,H')/\H'[q]? = some (.dic kvs fz)/\DR rss bs kvs/\Fz H H':=by
 obtain⟨k1,H1,q1,e1,g1,d1,x1⟩:=Zo8 hu hl H
 have s1:Zbg 2 (Zal 1 Zbp (Zab (Zac 0) Zaf)) [some (.tup (rss.map Zay)),some (.tup (bs.map .bl)),none,none,none] H=some (.nx,[some (.tup (rss.map Zay)),some (.tup (bs.map .bl)),some (.ref q1),none,none],H1):=Znl (ca (ac (vr rfl) an) rfl e1)
 obtain⟨k2,H2,q2,fz2,z3',z4',e2,g2,d2,x2⟩:=Zmw (r:=.tup (rss.map Zay)) (pl:=.tup (bs.map .bl)) hu hl bs [] k1 q1 false H1 none none g1 d1
 have e3:Zew (Zps (Zab (Zac 1) Zaf)) (gTp 2 (gCn (gNm 3) (gCn (gNm 4) gNl))) (Zag (Zbg 2 (Zal 3 Za4 (Zab (Zac 2) (Zab (Zac 3) (Zab (Zac 4) Zaf))))) Zak) [some (.tup (rss.map Zay)),some (.tup (bs.map .bl)),some (.ref q1),none,none] H1=some (.nx,[some (.tup (rss.map Zay)),some (.tup (bs.map .bl)),some (.ref q2),z3',z4'],H2):=by
  unfold Zew Zps
  rw[ac (vr rfl) an]
  exact e2
 refine⟨k2,H2,q2,fz2,?_,g2,d2,x1.trans x2⟩
 show ((Zbj [some (.tup (rss.map Zay)),some (.tup (bs.map .bl)),none,none,none] H).bind _)=_
 unfold Zbj
 rw[Zce s1,Zce e3]
 rfl
nonrec def kS (d:D):Bool:=match d with
 | .str s=>s == "some"
 | _=>false
nonrec def Za5 (b:Bool):D:=if b then .str "some" else .str "all"
theorem Zng {d:D} (h:Zb6 d):d=Za5 (kS d):=by
 rcases h with rfl | rfl
 ·have:kS (.str "all")=false:=by decide
  rw[this]; rfl
 ·have:kS (.str "some")=true:=by decide
  rw[this]; rfl
nonrec def W (ks:List D) (rss:List (List Int)):Nat->List Bool->Bool
 | 0,bs=>rss.all (kept bs)
 | j+1,bs =>
  let who:=kS (ks.getD bs.length .non)
  if W ks rss j (bs++[false])==who||W ks rss j (bs++[true])==who then who else !who
theorem Zmx {bs:List Bool} {t:Bool} {ls:List Int} {m:Int} (hu:Up m 0 ls) (h:kept bs ls=true):kept (bs++[t]) ls=true:=by
 rw[(Zf3 bs t ls 0 (Wck _) hu).2,h]; rfl
theorem Zqc {ks:List D} {rss:List (List Int)} {m:Int} (hu:∀ ls∈rss,Up m 0 ls):∀ (j:Nat) (bs:List Bool),(∀ ls∈rss,kept bs ls=true)->W ks rss j bs=true
 | 0,bs,h=>by unfold W; rw[Wab]; exact h
 | j+1,bs,h=>by
  have a:=Zqc (ks:=ks) hu j (bs++[false]) fun ls hl=>Zmx (hu ls hl) (h ls hl)
  have b:=Zqc (ks:=ks) hu j (bs++[true]) fun ls hl=>Zmx (hu ls hl) (h ls hl)
  unfold W
  rw[a,b]
  cases kS (ks.getD bs.length .non)<;>rfl
theorem Znk {bs:List Bool} {t:Bool} {ls:List Int} {m:Int} (hu:Up m 0 ls) (h:kept bs ls=false/\rest bs ls=[]):kept (bs++[t]) ls=false/\rest (bs++[t]) ls=[]:=by
 obtain⟨n1,n2⟩:=Zf3 bs t ls 0 (Wck _) hu
 rw[n1,n2,h.1,h.2]; exact⟨rfl,rfl⟩
theorem Zwq {ks:List D} {rss:List (List Int)} {m:Int} {ls:List Int} (hl:ls∈rss) (hu:Up m 0 ls):∀ (j:Nat) (bs:List Bool),kept bs ls=false/\rest bs ls=[]->W ks rss j bs=false
 | 0,bs,h=>by
  unfold W
  cases e:rss.all (kept bs) with
  | false=>rfl
  | true=>rw[Wab.mp e ls hl] at h; cases h.1
 | j+1,bs,h=>by
  have a:=Zwq (ks:=ks) hl hu j (bs++[false]) (Znk hu h)
  have b:=Zwq (ks:=ks) hl hu j (bs++[true]) (Znk hu h)
  unfold W
  rw[a,b]
  cases kS (ks.getD bs.length .non)<;>rfl
theorem Zpa {m:Int} (bs:List Bool) (h:m<=bs.length):∀ (ls:List Int) (last:Int),Up m last ls->rest bs ls=[]
 | [],_,_=>rfl
 | l::r,last,u=>by
  have o:opn bs l=false:=decide_eq_false (by have:=u.2.1; omega)
  unfold rest
  rw[Waz (by rw[o]; simp)]
  exact Zpa bs h r (Zas l) u.2.2
theorem Zo1 (b:Bool) (H:HD):Zbq [Za5 b] H=some (Za5 (!b),H):=by
 cases b
 ·have:((("all" : Str))==("some" : Str))=false:=by decide
  simp[Zbq,Zc5,Zbd,Za5,Zag,Zbl,eIf,tOf,eOp,eqD,Zrd,Zac,eC,blD,this]
 ·simp[Zbq,Zc5,Zbd,Za5,Zag,Zbl,eIf,tOf,eOp,eqD,Zrd,Zac,eC,blD]
theorem Zle (a b:Bool) (H:HD):eqD (Za5 a) (Za5 b) H=some (.bl (a==b),H):=by
 have e1:((("all" : Str))==("some" : Str))=false:=by decide
 have e2:((("some" : Str))==("all" : Str))=false:=by decide
 cases a<;>cases b<;>simp[eqD,Zrd,Za5,e1,e2]
nonrec def Zaz (bs:List Bool):D:=.tup (bs.map .bl)
nonrec abbrev wb (F:FF):SF:=(Zag (sIf (tOf (eOp eqD (Zal 3 F (Zab (Zac 0) (Zab (Zal 3 Za4 (Zab (Zac 1) (Zab (eOp Zb0 (Zac 2) (eC (.int 1))) (Zab (Zac 4) Zaf)))) (Zab (eOp Zb0 (Zac 2) (eC (.int 1))) Zaf)))) (Zac 3))) (Zag (Zbl (Zac 3))
 Zak) Zak)
 Zak)
theorem Ztf {ks:List D} {rss:List (List Int)} (hk:∀ d∈ks,Zb6 d) (hu:∀ ls∈rss,Up ks.length 0 ls) (hl:rss.length<=1000):∀ (j f:Nat) (bs:List Bool) (kvs:List (D×D)) (p:Nat) (fz:Bool) (H:HD),j<f->bs.length+j=ks.length->H[p]? = some (.dic kvs fz)->DR rss bs kvs ->
  ∃ H',Zlg 3 5 Za2 f [.tup ks,.ref p,.int bs.length] H=some (Za5 (W ks rss j bs),H')/\Fz H H'
 | j,0,bs,kvs,p,fz,H,hf,_,_,_=>by omega
 | j,f+1,bs,kvs,p,fz,H,hf,hj,hp,dr=>by
  show ∃ H',((Za2 (Zlg 3 5 Za2 f) [some (.tup ks),some (.ref p),some (.int bs.length),none,none] H).bind _)=_/\_
  generalize hF:Zlg 3 5 Za2 f=F
  let σ0:SD:=[some (.tup ks),some (.ref p),some (.int bs.length),none,none]
  have t1:tOf (eOp dinD (Zdi Zaf) (Zac 1)) σ0 H=some ((Zbh kvs []).isSome,H):=by
   refine tof (op (tp (ds:=[]) an (by simp)) (vr rfl) ?_)
   simp[dinD,Zvi,hp,nk,Zkh]
  have t2:tOf (eOp eqD (eCB Zkn (Zab (Zac 1) Zaf)) (eC (.int 0))) σ0 H=some ((kvs.length:Int)==0,H):=by
   refine tof (op (cb (ac (vr rfl) an) (r:=some (.int kvs.length,H)) ?_) rfl (Zs2 _ _ _))
   simp[Zkn,Zvi,hp]
  cases c1:(Zbh kvs []).isSome with
  | true =>
   rw[c1] at t1
   obtain⟨x,hx,ex⟩:=Ziz c1
   obtain⟨ls,g1,g2,g3⟩:=dr.key x hx
   have r0:rest bs ls=[]:=by rw[g3,Zed] at ex; exact Xy.inj ex
   refine⟨H,?_,Fz.refl⟩
   unfold Za2
   rw[hit (σ1:=σ0) t1 (rt rfl),Zwq g1 (hu ls g1) j bs ⟨g2,r0⟩]
   rfl
  | false =>
   rw[c1] at t1
   by_cases c2:kvs=[]
   ·subst c2
    have al:∀ ls∈rss,kept bs ls=true:=fun ls h=>by
     cases e:kept bs ls with
     | true=>rfl
     | false=>have:=dr.all ls h e; simp[Zbh] at this
    refine⟨H,?_,Fz.refl⟩
    unfold Za2
    rw[skip t1,hit (σ1:=σ0) t2 (rt rfl),Zqc hu j bs al]
    rfl
   ·have t2':tOf (eOp eqD (eCB Zkn (Zab (Zac 1) Zaf)) (eC (.int 0))) σ0 H=some (false,H):=by
     rw[t2]
     have:((kvs.length:Int)==0)=false:=by
      have:=List.length_pos_iff.mpr c2
      simp; exact c2
     rw[this]
    -- a name is left
    match j,hj,hf with
    | 0,hj,hf =>
     exfalso
     obtain⟨x,kr,e⟩:=Wdt c2
     obtain⟨ls,g1,g2,g3⟩:=dr.key x (by rw[e]; simp)
     have r0:=Zpa bs (m:=ks.length) (by omega) ls 0 (hu ls g1)
     have:=dr.all ls g1 g2
     rw[r0,c1] at this; cases this
    | j+1,hj,hf =>
     have lt:bs.length<ks.length:=by omega
     let who:Bool:=kS (ks.getD bs.length .non)
     have gw:ks[bs.length]? = some (Za5 who):=by
      have e0:ks.getD bs.length .non=ks[bs.length]:=by simp[List.getD,lt]
      have:=Zng (hk ks[bs.length] (Wac lt))
      rw[Xn lt,this]
      show some (Za5 (kS ks[bs.length]))=some (Za5 (kS (ks.getD bs.length .non)))
      rw[e0]
     have s3:Zbg 3 (eOp ixD (Zac 0) (Zac 2)) σ0 H=some (.nx,[some (.tup ks),some (.ref p),some (.int bs.length),some (Za5 who),none],H):=Znl (op (vr rfl) (vr rfl) (ixT (Zbx gw)))
     -- one pick
     have one:∀ (t:Bool) (z4:Option D) (H0:HD) (fz0:Bool),H0[p]? = some (.dic kvs fz0)->∃ H1,tOf (eOp eqD (Zal 3 F (Zab (Zac 0) (Zab (Zal 3 Za4 (Zab (Zac 1) (Zab (eOp Zb0 (Zac 2) (eC (.int 1))) (Zab (Zac 4) Zaf)))) (Zab (eOp Zb0 (Zac 2) (eC (.int 1))) Zaf)))) (Zac 3)) [some (.tup ks),some (.ref p),some (.int bs.length),some (Za5 who),some (.bl t)] H0=some (W ks rss j (bs++[t])==who,H1)/\Fz H0 H1:=by
      intro t z4 H0 fz0 h0
      obtain⟨k1,H1,q1,e1,g1,d1,x1⟩:=Zie (t:=t) hu hl h0 dr
      obtain⟨H2,e2,x2⟩:=Ztf hk hu hl j f (bs++[t]) k1 q1 false H1 (by omega) (by simp; omega) g1 d1
      have el:(((bs++[t]).length:Nat):Int)=(bs.length:Int)+1:=by simp
      rw[el,hF] at e2
      refine⟨H2,tof (op (ca (ac (vr rfl) (ac (ca (ac (vr rfl) (ac (op (vr rfl) rfl (adI _ _ _)) (ac (vr rfl) an))) rfl e1) (ac (op (vr rfl) rfl (adI _ _ _)) an))) rfl e2) (vr rfl) (Zle _ _ _)),x1.trans x2⟩
     obtain⟨H1,o1,x1⟩:=one false none H fz hp
     obtain⟨fz1,h1⟩:=x1.dic hp
     obtain⟨H2,o2,x2⟩:=one true none H1 fz1 h1
     have Wd:W ks rss (j+1) bs=(if W ks rss j (bs++[false])==who||W ks rss j (bs++[true])==who then who else !who):=by
      conv=>lhs; unfold W
     have it:∀ Hx,iSq (eC k_TRUTHS) [some (.tup ks),some (.ref p),some (.int bs.length),some (Za5 who),none] Hx=some (([.bl false,.bl true],[]),Hx):=fun _=>rfl
     have st:∀ (t b:Bool) (Ha Hb:HD),tOf (eOp eqD (Zal 3 F (Zab (Zac 0) (Zab (Zal 3 Za4 (Zab (Zac 1) (Zab (eOp Zb0 (Zac 2) (eC (.int 1))) (Zab (Zac 4) Zaf)))) (Zab (eOp Zb0 (Zac 2) (eC (.int 1))) Zaf)))) (Zac 3)) [some (.tup ks),some (.ref p),some (.int bs.length),some (Za5 who),some (.bl t)] Ha=some (b,Hb) ->
       wb F [some (.tup ks),some (.ref p),some (.int bs.length),some (Za5 who),some (.bl t)] Ha=some (if b=true then .rt (Za5 who) else .nx,[some (.tup ks),some (.ref p),some (.int bs.length),some (Za5 who),some (.bl t)],Hb):=by
      intro t b Ha Hb h
      cases b with
      | true=>exact hit h (rt (vr rfl))
      | false=>exact(skip h).trans rfl
     unfold Za2
     rw[skip t1,skip t2',Zce s3]
     cases w1:(W ks rss j (bs++[false])==who) with
     | true =>
      rw[w1] at o1
      refine⟨H1,?_,x1⟩
      have lp:Zew (iSq (eC k_TRUTHS)) (gNm 4) (wb F) [some (.tup ks),some (.ref p),some (.int bs.length),some (Za5 who),none] H=some (.rt (Za5 who),[some (.tup ks),some (.ref p),some (.int bs.length),some (Za5 who),some (.bl false)],H1):=by
       unfold Zew
       rw[it]
       simp only[Zb]
       rw[Zfr,if_pos Zhh]
       simp only[gNm,Wff,Zb]
       rw[st _ _ _ _ o1]
       rfl
      rw[Zj7 lp,Wd,w1]
      rfl
     | false =>
      rw[w1] at o1
      have lp:Zew (iSq (eC k_TRUTHS)) (gNm 4) (wb F) [some (.tup ks),some (.ref p),some (.int bs.length),some (Za5 who),none] H=some (if (W ks rss j (bs++[true])==who)=true then .rt (Za5 who) else .nx,[some (.tup ks),some (.ref p),some (.int bs.length),some (Za5 who),some (.bl true)],H2):=by
       unfold Zew
       rw[it]
       simp only[Zb]
       rw[Zfr,if_pos Zhh]
       simp only[gNm,Wff,Zb]
       rw[st _ _ _ _ o1]
       simp only[Zb,Wan,if_false]
       rw[Zfr,if_pos Zhh]
       simp only[gNm,Wff,Zb]
       rw[st _ _ _ _ o2]
       cases (W ks rss j (bs++[true])==who) with
       | true=>rfl
       | false =>
        simp only[Zb,Wan,if_false]
        rw[Zfr,if_pos Zhh]
      refine⟨H2,?_,x1.trans x2⟩
      cases w2:(W ks rss j (bs++[true])==who) with
      | true =>
       rw[w2,if_pos rfl] at lp
       rw[Zj7 lp,Wd,w1,w2]
       rfl
      | false =>
       rw[w2,if_neg (by simp)] at lp
       have eo:Zal 1 Zbq (Zab (Zac 3) Zaf) [some (.tup ks),some (.ref p),some (.int bs.length),some (Za5 who),some (.bl true)] H2=some (Za5 (!who),H2):=ca (ac (vr rfl) an) rfl (Zo1 who H2)
       rw[Zce lp,Zj7 (rt eo),Wd,w1,w2]
       rfl
theorem Ztb {ks:List D} {rss:List (List Int)} {bs:List Bool} {j:Nat} (hk:∀ d∈ks,Zb6 d) (hu:∀ ls∈rss,Up ks.length 0 ls) (hl:rss.length<=1000) (h8:ks.length<=8) (hj:bs.length+j=ks.length) (H:HD) :
  ∃ H',Zgk [.tup [.tup ks,.tup (rss.map Zay)],.tup (bs.map .bl)] H=some (Za5 (W ks rss j bs),H')/\Fz H H':=by
 obtain⟨kvs,H1,q,fz,e1,g1,d1,x1⟩:=Zjp (bs:=bs) hu hl H
 obtain⟨H2,e2,x2⟩:=Ztf hk hu hl j 10 bs kvs q fz H1 (by omega) hj g1 d1
 refine⟨H2,?_,x1.trans x2⟩
 have at0:atI [D.tup ks,D.tup (rss.map Zay)] 0=some (.tup ks):=Zbx (j:=0) rfl
 have at1:atI [D.tup ks,D.tup (rss.map Zay)] 1=some (.tup (rss.map Zay)):=Zbx (j:=1) rfl
 show ((Zgt [some (.tup [.tup ks,.tup (rss.map Zay)]),some (.tup (bs.map .bl))] H).bind _)=_
 unfold Zgt
 have e2':Zcl [.tup ks,.ref q,.int bs.length] H1=some (Za5 (W ks rss j bs),H2):=e2
 have ec:Zal 3 Zcl (Zab (eOp ixD (Zac 0) (eC (.int 0))) (Zab (Zal 2 Zby (Zab (eOp ixD (Zac 0) (eC (.int 1))) (Zab (Zac 1) Zaf))) (Zab (eCB Zct (Zab (Zac 1) Zaf)) Zaf))) [some (.tup [.tup ks,.tup (rss.map Zay)]),some (.tup (bs.map .bl))] H=some (Za5 (W ks rss j bs),H2) :=
  ca (ac (op (vr rfl) rfl (ixT at0)) (ac (ca (ac (op (vr rfl) rfl (ixT at1)) (ac (vr rfl) an)) rfl e1) (ac (cb (ac (vr rfl) an) (lenB bs _)) an))) rfl e2'
 rw[Zj7 (rt ec)]
 rfl
end K08
namespace K08
open PySem L2 DL LH WP
theorem at0 (a b:D):atI [a,b] 0=some a:=Zbx (j:=0) rfl
theorem at1 (a b:D):atI [a,b] 1=some b:=Zbx (j:=1) rfl
theorem Fz.fm {H H':HD} (x:Fz H H'):Fm [] H H':=⟨fun m o _ h=>x.old m o h,x.len⟩
structure Cl (ks:List D) (rss:List (List Int)):Prop where
 hk:∀ d∈ks,Zb6 d
 hu:∀ ls∈rss,Up ks.length 0 ls
 hl:rss.length<=1000
 h8:ks.length<=8
nonrec def Zao (ks:List D) (rss:List (List Int)):D:=.tup [.tup ks,.tup (rss.map Zay)]
variable {H:HD} {Q:D->HD->Prop}
theorem w_cl0 {ks:List D} {rss:List (List Int)} (q:Q (.tup ks) H):wE (ixD (Zao ks rss) (.int 0) H) Q:=⟨_,_,ixT (at0 _ _),q⟩
theorem w_cl1 {ks:List D} {rss:List (List Int)} (q:Q (.tup (rss.map Zay)) H):wE (ixD (Zao ks rss) (.int 1) H) Q:=⟨_,_,ixT (at1 _ _),q⟩
nonrec def FW (ks:List D) (rss:List (List Int)) (bs:List Bool):D:=Za5 (W ks rss (ks.length - bs.length) bs)
theorem Ydk {bs:List Bool} {H:HD} {Q:D->HD->Prop} (q:Q (.int bs.length) H):wE (Zct [Zaz bs] H) Q:=⟨_,_,lenB bs H,q⟩
theorem Ybx {bs:List Bool} {t:Bool} {H:HD} {Q:D->HD->Prop} (h:bs.length<=1000) (q:Q (Zaz (bs++[t])) H):wE (Zb0 (Zaz bs) (.tup [.bl t]) H) Q :=
 ⟨Zaz (bs++[t]),H,by unfold Zaz; rw[adT (by simp; omega),Wae]; rfl,q⟩
theorem Zf4 {ks:List D} (hk:∀ d∈ks,Zb6 d) {i:Nat} (h:i<ks.length):ks[i]? = some (Za5 (kS (ks.getD i .non))):=by
 have e0:ks.getD i .non=ks[i]:=by simp[List.getD,h]
 have:=Zng (hk ks[i] (Wac h))
 rw[Xn h,e0]
 exact congrArg some this
theorem Zhw {a b:Bool} (q:Q (.bl (a==b)) H):wE (eqD (Za5 a) (Za5 b) H) Q:=⟨_,_,Zle _ _ _,q⟩
theorem Zov {ks:List D} {rss:List (List Int)} {bs:List Bool} {t:Bool} {kvs:List (D×D)} {p:Nat} {fz:Bool} (c:Cl ks rss) (g:H[p]? = some (.dic kvs fz)) (dr:DR rss bs kvs)
  (q:∀ kvs' r H',H'[r]? = some (.dic kvs' false)->DR rss (bs++[t]) kvs'->Fm [] H H'->Q (.ref r) H'):wE (Za4 [.ref p,.int ((bs.length:Int)+1),.bl t] H) Q:=by
 obtain⟨kvs',H',r,e,g',d',x⟩:=Zie (t:=t) c.hu c.hl g dr
 exact⟨_,_,e,q kvs' r H' g' d' x.fm⟩
theorem Zy1 {ks:List D} {rss:List (List Int)} (c:Cl ks rss) (q:∀ kvs r H',H'[r]? = some (.dic kvs false)->DR rss [] kvs->Fm [] H H'->Q (.ref r) H'):wE (Zbp [.tup (rss.map Zay)] H) Q:=by
 obtain⟨kvs',H',r,e,g',d',x⟩:=Zo8 c.hu c.hl H
 exact⟨_,_,e,q kvs' r H' g' d' x.fm⟩
local macro_rules | `(tactic| fail $s:str)=>do
 if s.getString == "g" then `(tactic| (repeat fail "go")) else if s.getString == "i" then `(tactic| ((repeat fail "go"); (refine WP.w_if ?_; (repeat fail "go")))) else Lean.Macro.throwUnsupported
local macro_rules | `(tactic| fail $s:str)=>do
 if s.getString == "lk" then `(tactic| first | assumption | with_reducible exact WP.last | (with_reducible refine WP.appL ?_; fail "lk"))
 else if s.getString == "go" then do
  let a0 <- `(by with_unfolding_all rfl)
  let a1 <- `(?_)
  let a2 <- `(by first | (simp; done) | (simp; omega) | omega)
  let a3 <- `(by decide)
  let a4 <- `(by with_unfolding_all first | exact(rfl:_=true) | exact(rfl:_=false))
  let a5 <- `(by fail "lk")
  let a6 <- `(by with_unfolding_all exact rfl)
  let t<-([`WP.w_var].map (·,[a0,a1])++[`WP.w_c,`WP.w_seq,`WP.w_kn,`WP.w_set,`WP.w_op,`WP.w_acons,`WP.w_anil,`WP.w_call,`WP.w_cb,`WP.w_tof,`WP.w_bl,`WP.w_bt,`WP.w_bf,`WP.w_bnt,`WP.w_bnf,`WP.w_ret,`WP.w_fr,`WP.w_kr,`WP.w_snil,`WP.w_expr,`WP.w_for,`WP.w_or,`WP.w_an,`WP.w_no,`WP.w_ttru,`WP.w_eif,`WP.w_eno,`WP.w_ean,`WP.w_eorr,`WP.w_un,`WP.w_ch,`WP.w_int,`WP.w_tup,`WP.w_lst,`WP.w_lm,`WP.w_tm,`WP.w_dm,`WP.w_dn,`WP.w_on,`WP.w_os,`WP.w_sl,`WP.w_rv,`WP.w_lc,`WP.w_asg,`WP.w_gnm,`WP.w_gsb,`WP.w_gcn,`WP.w_gnl].map (·,[a1])++[`WP.w_n,`WP.w_gtp,`WP.w_ixT,`WP.w_isN,`WP.w_isnN,`WP.w_isBl,`WP.w_isnBl].map (·,[a0,a1])++[`WP.w_sz,`WP.w_addT].map (·,[a2,a1])++[`WP.w_mod].map (·,[a3,a1])++[`WP.w_fdiv,`WP.w_mulL,`WP.w_mulR].map (·,[a3,a3,a1])++[`WP.w_eqI',`WP.w_neI',`WP.w_eqS',`WP.w_neS'].map (·,[a4,a1])++[`WP.w_lenR,`WP.w_tupR,`WP.w_itR].map (·,[a5,a1])++[`WP.w_ixR].map (·,[a5,a0,a1])++[`WP.w_isi'].map (·,[a0,a0,a4,a1])++[`WP.w_addI,`WP.w_subI,`WP.w_lt,`WP.w_le,`WP.w_gt,`WP.w_ge,`WP.w_slhi,`WP.w_sllo,`WP.w_sllo1,`WP.w_neg,`WP.w_eqI,`WP.w_neI,`WP.w_eqS,`WP.w_neS,`WP.w_lenT,`WP.w_lenF,`WP.w_abs,`WP.w_intI,`WP.w_intB,`WP.w_max,`WP.w_min,`WP.w_truB,`WP.w_truT,`WP.w_truN,`WP.w_isq,`WP.w_itT,`WP.w_itF,`WP.w_ir1,`WP.w_ir2,`WP.w_ir3,`WP.w_idic,`WP.w_enum,`WP.w_enum1,`WP.w_zip,`WP.w_yes,`WP.w_retn,`WP.w_fn,`WP.w_agn,`WP.w_agr,`WP.w_kb,`WP.w_kc,`WP.w_agb,`WP.w_agc,`WP.w_brk,`WP.w_cnt].map (·,[a1])++[`WP.w_bT,`WP.w_bF].map (·,[a6,a1]):List (Lean.Name×List Lean.Term)).foldrM (fun p (r:Lean.TSyntax `tactic) => `(tactic| first | with_reducible refine $(Lean.Syntax.mkApp (Lean.mkIdent p.1) p.2.toArray) | $r:tactic)) (<- `(tactic| fail "no"))
  return t
 else Lean.Macro.throwUnsupported
local macro_rules | `(tactic| fail $s:str)=>do
 if s.getString == "go" then `(tactic| first | with_reducible refine Ydk ?_ | with_reducible refine Ybx (by omega) ?_ | with_reducible refine w_cl0 ?_ | with_reducible refine w_cl1 ?_)
 else Lean.Macro.throwUnsupported
variable {H:HD} {Q:D->HD->Prop}
nonrec def Zhr (ks:List D) (ls:List Int):Bool:=ls.all fun l => !kS (ks.getD (Zas l - 1).toNat .non)
theorem Zqu {ks:List D} {b:Int} {ls:List Int} (h:Zhr ks ls=true):Zhr ks (Zfd b ls)=true:=by
 cases ls with
 | nil=>exact h
 | cons l r =>
  show Zhr ks (if Zas l=b+1 then r else l::r)=true
  split
  ·unfold Zhr at h ⊢; rw[Wcu,Wam] at h; exact h.2
  ·exact h
theorem Zx0 {ks:List D} {rss:List (List Int)} {ls:List Int} (hl:ls∈rss) (hu:Up ks.length 0 ls):∀ (j:Nat) (bs:List Bool),bs.length+j=ks.length->kept bs ls=false->Zhr ks (rest bs ls)=true->W ks rss j bs=false
 | 0,bs,hb,hk,ha=>Zwq hl hu 0 bs ⟨hk,Zpa bs (by omega) ls 0 hu⟩
 | j+1,bs,hb,hk,ha=>by
  have nx:=fun t=>Zf3 bs t ls 0 (Wck _) hu
  have go:∀ t,Zjk bs.length t (rest bs ls)=false->W ks rss j (bs++[t])=false:=fun t ht =>
   Zx0 hl hu j (bs++[t]) (by simp; omega) (by rw[(nx t).2,hk,ht]; rfl) (by rw[(nx t).1]; exact Zqu ha)
  unfold W
  cases hw:kS (ks.getD bs.length .non) with
  | false =>
   have:∃ t,Zjk bs.length t (rest bs ls)=false:=by
    cases rest bs ls with
    | nil=>exact⟨false,rfl⟩
    | cons l r =>
     refine⟨!decide (0<l),?_⟩
     show (decide (Zas l=(bs.length:Int)+1)&&((!decide (0<l))==decide (0<l)))=false
     cases decide (0<l)<;>cases decide (Zas l=(bs.length:Int)+1)<;>rfl
   obtain⟨t,ht⟩:=this
   have:=go t ht
   cases t
   ·simp[this]
   ·simp[this]
  | true =>
   have nh:∀ t,Zjk bs.length t (rest bs ls)=false:=by
    intro t
    cases e:rest bs ls with
    | nil=>rfl
    | cons l r =>
     unfold Zjk
     rw[e] at ha
     unfold Zhr at ha
     rw[Wcu,Wam] at ha
     have:¬ Zas l=(bs.length:Int)+1:=fun z=>by
      have h2:(Zas l - 1).toNat=bs.length:=by omega
      rw[h2,hw] at ha
      cases ha.1
     simp[this]
   simp[go _ (nh false),go _ (nh true)]
inductive PlanD (ks:List D) (rss:List (List Int)) (side:Bool):List Bool->D->Prop
 | kept {bs:List Bool}:side=true->(∀ ls∈rss,kept bs ls=true)->PlanD ks rss side bs (.tup [.str "kept"])
 | lost {bs:List Bool} {i:Nat} {ls:List Int}:side=false->rss[i]? = some ls->K08.kept bs ls=false->Zhr ks (rest bs ls)=true->PlanD ks rss side bs (.tup [.str "lost",.int i])
 | pick {bs:List Bool} {t:Bool} {x:D}:bs.length<ks.length->kS (ks.getD bs.length .non)=side->PlanD ks rss side (bs++[t]) x->PlanD ks rss side bs (.tup [.str "pick",.bl t,x])
 | each {bs:List Bool} {x y:D}:bs.length<ks.length->kS (ks.getD bs.length .non) = !side->PlanD ks rss side (bs++[false]) x->PlanD ks rss side (bs++[true]) y->PlanD ks rss side bs (.tup [.str "each",x,y])
theorem w_all {p:Nat} {bs:List Bool} (g:H[p]? = some (.lst (bs.map .bl))) (q:Q (.bl (bs.all id)) H):wE (Yax [.ref p] H) Q:=⟨_,_,Yco g,q⟩
theorem Zza {ks:List D} {ls:List Int} (hk:∀ d∈ks,Zb6 d) (h:∀ l∈ls,0<Zas l/\Zas l<=ks.length) (hl:ls.length<=1000) (q:∀ H',Fm [] H H'->Q (.bl (Zhr ks ls)) H'):wE (Ze3 [.tup ks,Zay ls] H) Q:=by
 refine Zbf rfl ?_
 show wS (Zc8 [some (.tup ks),some (Zay ls)] H) _
 unfold Zc8 Zay
 fail "g"
 refine Zu7 (fun d=>match d with | .int l=>.bl (!kS (ks.getD (Zas l - 1).toNat .non)) | _=>.non) (fun H'=>H'=H) (fun _ _=>Zh3) _ (fun x hx H1 j=>?_) _ rfl fun H1 j=>?_
 ·obtain⟨l,hl,rfl⟩:=Xx.mp hx
  have:=h l hl
  subst j
  fail "g"
  refine w_ixT (Zi2 (by omega) (Zf4 hk (by omega))) ?_
  fail "g"
  refine Zhw (b:=false) ?_
  exact⟨by simp,rfl⟩
 ·subst j
  refine⟨by simp; omega,?_⟩
  fail "g"
  have e:((ls.map D.int).map fun d=>match d with | .int l=>D.bl (!kS (ks.getD (Zas l - 1).toNat .non)) | _=>.non)=(ls.map fun l => !kS (ks.getD (Zas l - 1).toNat .non)).map .bl:=by
   rw[Wbt,Wbt]; rfl
  rw[e]
  refine w_all last ?_
  fail "g"
  have:=q (H1++[.lst ((ls.map fun l => !kS (ks.getD (Zas l - 1).toNat .non)).map .bl)]) (Fm.app _)
  rw[List.all_map]
  exact this
theorem Zxv {m:Int}:∀ (ls:List Int) (last:Int),Up m last ls->ls.length<=(m - last).toNat
 | [],_,_=>Wbb _
 | x::r,last,u=>by
  obtain⟨u1,u2,u3⟩:=u
  have:=Zxv r _ u3
  simp only[Wdg]
  omega
theorem Zxf {m:Int}:∀ (ls:List Int) (last:Int),0<=last->Up m last ls->∀ l∈ls,last<Zas l/\Zas l<=m
 | [],_,_,_,_,h=>by cases h
 | l::r,last,h0,u,x,h=>by
  obtain⟨u1,u2,u3⟩:=u
  rcases Xh.mp h with rfl | h
  ·exact⟨u1,u2⟩
  ·have:=Zxf r (Zas l) (by omega) u3 x h; omega
theorem Zpr {bs:List Bool} {ls:List Int} {l:Int} (h:l∈rest bs ls):l∈ls:=(Wad.mp h).1
theorem Zug {ks:List D} {rss:List (List Int)} {bs:List Bool} {kvs:List (D×D)} {p:Nat} {fz:Bool} (c:Cl ks rss) (g:H[p]? = some (.dic kvs fz)) (dr:DR rss bs kvs)
  (q1:∀ (i:Nat) (ls:List Int) H',Fm [] H H'->rss[i]? = some ls->kept bs ls=false->Zhr ks (rest bs ls)=true->Q (.int i) H') (q2:∀ H',Fm [] H H'->(∀ ls∈rss,kept bs ls=false->Zhr ks (rest bs ls)=false)->Q .non H') :
  wE (Zde [.tup ks,.ref p] H) Q:=by
 refine Zbf rfl ?_
 show wS (Zbv [some (.tup ks),some (.ref p),none] H) _
 unfold Zbv
 fail "g"
 refine⟨p,kvs,fz,rfl,g,?_⟩
 have lt:=(Xc.mp g).1
 have x0:Fm [] H (H.set p (.dic kvs true)):=⟨fun m o _ h=>by
  by_cases e:p=m
  ·subst e
   rw[g] at h; cases h
   cases fz
   ·exact .inr ⟨kvs,rfl,Zjl g⟩
   ·exact .inl (Zjl g)
  ·exact .inl (Zvk e h),by simp⟩
 refine Zc6 (fun d t σ H'=>d++t=kvs.map (·.1)/\(∀ ls,Zay ls∈d->Zhr ks ls=false)/\Fm [] H H'/\H'[p]? = some (.dic kvs true)/\∃ b,σ=[some (.tup ks),some (.ref p),b]) (fun _ _ _ _ j=>Zok j.2.2.2.1) (fun d x t σ H1 ⟨i1,i2,i3,i4,b,i5⟩=>?_) (fun d σ H1 ⟨i1,i2,i3,i4,b,i5⟩=>?_) _ [] _ _ ⟨rfl,by simp,x0,Zjl g,_,rfl⟩
 ·subst i5
  have hm:x∈kvs.map (·.1):=by rw[<- i1]; simp
  obtain⟨y,hy,rfl⟩:=Xx.mp hm
  obtain⟨i,ls,v1,v2,v3⟩:=dr.val y hy
  have hu:=c.hu ls (Xu v1)
  have hb:=Zxf ls 0 (Wck _) hu
  have ek:y.1=Zay (rest bs ls):=by rw[v3]
  rw[ek]
  have ll:(rest bs ls).length<=1000:=by
   refine Waf (Waq _ _) ?_
   have l9:=Zxv ls 0 hu
   have:=c.h8
   omega
  fail "i"
  refine Zza c.hk (fun l hl=>⟨(hb l (Zpr hl)).1,(hb l (Zpr hl)).2⟩) ll fun H2 x2=>?_
  refine⟨_,rfl,?_,?_⟩
  ·intro ha
   fail "g"
   obtain⟨v,ev⟩:=Waj.mp (Znm hy (k:=rest bs ls) (by rw[ek]; exact Zed _))
   obtain⟨z,z1,z2,z3⟩:=Zo0 ev
   obtain⟨i',ls',u1,u2,u3⟩:=dr.val z z1
   have er:rest bs ls'=rest bs ls:=by rw[u3,Zed] at z2; exact Xy.inj z2
   refine Zyh (x2.fr (by simp) i4) (Zed _) ev ?_
   fail "g"
   rw[<- z3,u3]
   exact q1 i' ls' H2 (i3.trans x2) u1 u2 (by rw[er]; exact ha)
  ·intro ha
   fail "g"
   refine⟨by rw[<- i1,ek]; simp,fun l hl=>?_,i3.trans x2,x2.fr (by simp) i4,_,rfl⟩
   rcases Xv.mp hl with hl | hl
   ·exact i2 l hl
   ·simp at hl; rw[Zyq hl]; exact ha
 ·subst i5
  fail "g"
  refine q2 H1 i3 fun ls hl hk=>?_
  obtain⟨y,hy,ey⟩:=Ziz (dr.all ls hl hk)
  obtain⟨i',ls',u1,u2,u3⟩:=dr.val y hy
  have er:rest bs ls'=rest bs ls:=by rw[u3,Zed] at ey; exact Xy.inj ey
  refine i2 _ ?_
  rw[Waa] at i1
  rw[i1,<- er]
  exact Xx.mpr ⟨y,hy,by rw[u3]⟩
theorem Yap {b:Bool} (q:Q (Za5 (!b)) H):wE (Zbq [Za5 b] H) Q:=⟨_,_,Zo1 b H,q⟩
theorem Zz2 {ks:List D} {rss:List (List Int)} (c:Cl ks rss):∀ f:Nat,
  (∀ (j:Nat) (bs:List Bool) (kvs:List (D×D)) (p:Nat) (fz:Bool) (H:HD) (Q:D->HD->Prop),2*j+1<=f->bs.length+j=ks.length->H[p]? = some (.dic kvs fz)->DR rss bs kvs ->
   (∀ t H',PlanD ks rss (W ks rss j bs) bs t->Fm [] H H'->Q (.tup [Za5 (W ks rss j bs),t]) H')->wE ((Zem 3 4 3 7 Zax Zap f).1 [.tup ks,.ref p,.int bs.length] H) Q) /\
  (∀ (j:Nat) (bs:List Bool) (kvs:List (D×D)) (p:Nat) (fz:Bool) (H:HD) (Q:D->HD->Prop),2*(j+1)<=f->bs.length+(j+1)=ks.length->H[p]? = some (.dic kvs fz)->DR rss bs kvs ->
   (∀ t H',PlanD ks rss (W ks rss (j+1) bs) bs t->Fm [] H H'->Q (.tup [Za5 (W ks rss (j+1) bs),t]) H')->wE ((Zem 3 4 3 7 Zax Zap f).2 [.tup ks,.ref p,.int bs.length] H) Q):=by
 intro f
 induction f with
 | zero=>exact⟨fun j _ _ _ _ _ _ h=>by omega,fun j _ _ _ _ _ _ h=>by omega⟩
 | succ f ih =>
  obtain⟨ih1,ih2⟩:=ih
  refine⟨?_,?_⟩
  ·intro j bs kvs p fz H Q hf hj g dr q
   rw[Zem]
   dsimp only
   generalize hF1:(Zem 3 4 3 7 Zax Zap f).1=F1 at *
   generalize hF2:(Zem 3 4 3 7 Zax Zap f).2=F2 at *
   refine Zbf rfl ?_
   show wS (Zax _ _ [some (.tup ks),some (.ref p),some (.int bs.length),none] H) _
   unfold Zax
   fail "i"
   refine Ydu g ?_
   fail "g"
   refine⟨fun h=>?_,fun h=>?_⟩
   ·have e0:kvs=[]:=Wcv.mp (by simp at h; simpa using h)
    subst e0
    have al:∀ ls∈rss,kept bs ls=true:=fun ls h=>by
     cases e:kept bs ls with
     | true=>rfl
     | false=>have:=dr.all ls h e; simp[Zbh] at this
    have ew:=Zqc (ks:=ks) c.hu j bs al
    fail "g"
    have:=q (.tup [.str "kept"]) H (.kept ew al) Fm.refl
    rw[ew] at this; exact this
   ·fail "g"
    refine Zug c g dr (fun i ls H1 x1 e1 e2 e3=>?_) (fun H1 x1 hn=>?_)
    ·fail "i"
     have ew:=Zx0 (Xu e1) (c.hu ls (Xu e1)) j bs hj e2 e3
     have:=q (.tup [.str "lost",.int i]) H1 (.lost ew e1 e2 e3) x1
     rw[ew] at this; exact this
    ·fail "i"
     obtain⟨fz1,g1⟩:=x1.dic (by simp) g
     match j,hj,hf,q with
     | 0,hj,_,_ =>
      exfalso
      have hne:kvs≠[]:=fun z=>by subst z; simp at h
      obtain⟨y,kr,e⟩:=Wdt hne
      obtain⟨i,ls,v1,v2,v3⟩:=dr.val y (by rw[e]; simp)
      have:=hn ls (Xu v1) v2
      rw[Zpa bs (m:=ks.length) (by omega) ls 0 (c.hu ls (Xu v1))] at this
      cases this
     | j+1,hj,hf,q =>
      refine ih2 j bs kvs p fz1 H1 _ (by omega) hj g1 dr fun t H2 pt x2=>?_
      fail "g"
      exact q t H2 pt (x1.trans x2)
  ·intro j bs kvs p fz H Q hf hj g dr q
   rw[Zem]
   dsimp only
   generalize hF1:(Zem 3 4 3 7 Zax Zap f).1=F1 at *
   generalize hF2:(Zem 3 4 3 7 Zax Zap f).2=F2 at *
   refine Zbf rfl ?_
   show wS (Zap _ _ [some (.tup ks),some (.ref p),some (.int bs.length),none,none,none,none] H) _
   unfold Zap
   have lb:∀ t:Bool,(((bs++[t]).length:Nat):Int)=(bs.length:Int)+1:=fun t=>by simp
   have Wd:W ks rss (j+1) bs=(if W ks rss j (bs++[false])==kS (ks.getD bs.length .non)||W ks rss j (bs++[true])==kS (ks.getD bs.length .non) then kS (ks.getD bs.length .non) else !kS (ks.getD bs.length .non)):=by
    conv=>lhs; unfold W
   fail "g"
   refine w_ixT (Zbx (Zf4 c.hk (by omega))) ?_
   fail "g"
   rw[k_TRUTHS]
   fail "g"
   generalize hw:kS (ks.getD bs.length .non)=who at *
   refine Ze4 Zh3 ?_
   fail "g"
   refine Zov c (appL g) dr fun kvs1 r1 H1 g1 d1 x1=>?_
   fail "g"
   rw[<- lb false]
   refine ih1 j (bs++[false]) kvs1 r1 false H1 _ (by omega) (by simp; omega) g1 d1 fun t2 H2 p2 x2=>?_
   have T2:=x2.lst (by simp) (x1.lst (by simp) last)
   fail "i"
   refine Zhw ?_
   fail "g"
   refine⟨fun h=>?_,fun h=>?_⟩
   ·fail "g"
    have ew:W ks rss (j+1) bs=who:=by rw[Wd,h]; rfl
    have e2:W ks rss j (bs++[false])=who:=by simpa using h
    rw[e2] at p2
    have:=q (.tup [.str "pick",.bl false,t2]) H2 (by rw[ew]; exact .pick (by omega) hw p2) (((Fm.app _).trans x1).trans x2)
    rw[ew] at this; exact this
   ·fail "g"
    refine⟨isl T2,?_⟩
    fail "g"
    refine Zhf T2 (by simp) ?_
    fail "g"
    refine Ze4 Zh3 ?_
    fail "g"
    obtain⟨fz3,g3⟩:=(((Fm.app _).trans x1).trans x2).dic (by simp) g
    have nq:H.length≠p:=by have:=(Xc.mp g).1; omega
    refine Zov c (Zvk nq g3) dr fun kvs4 r4 H4 g4 d4 x4=>?_
    fail "g"
    rw[<- lb true]
    refine ih1 j (bs++[true]) kvs4 r4 false H4 _ (by omega) (by simp; omega) g4 d4 fun t5 H5 p5 x5=>?_
    have T5:=x5.lst (by simp) (x4.lst (by simp) (Zjl T2))
    have X5:Fm [] H H5:=(((Fm.app (S:=[]) [DO.lst []]).trans x1).trans x2).new (((Fm.set (S:=[H.length]) (by simp)).trans (x4.sub (by simp))).trans (x5.sub (by simp))) (by simp)
    fail "i"
    refine Zhw ?_
    fail "g"
    refine⟨fun h'=>?_,fun h'=>?_⟩
    ·fail "g"
     have ew:W ks rss (j+1) bs=who:=by rw[Wd,h,h']; rfl
     have e2:W ks rss j (bs++[true])=who:=by simpa using h'
     rw[e2] at p5
     have:=q (.tup [.str "pick",.bl true,t5]) H5 (by rw[ew]; exact .pick (by omega) hw p5) X5
     rw[ew] at this; exact this
    ·fail "g"
     refine⟨isl T5,?_⟩
     fail "g"
     refine Zhf T5 (by simp) ?_
     fail "g"
     refine Zl8 Zh3 ?_
     fail "g"
     refine Yap ?_
     have T6:=Zjl (o:=.lst ([]++[t2]++[t5])) T5
     fail "g"
     have ew:W ks rss (j+1) bs = !who:=by rw[Wd,h,h']; rfl
     have e2:W ks rss j (bs++[false]) = !who:=by cases who<;>cases hh:W ks rss j (bs++[false])<;>simp_all
     have e5:W ks rss j (bs++[true]) = !who:=by cases who<;>cases hh:W ks rss j (bs++[true])<;>simp_all
     rw[e2] at p2
     rw[e5] at p5
     have:=q (.tup [.str "each",t2,t5]) _ (by rw[ew]; exact .each (by omega) (by rw[hw]; simp) p2 p5) (X5.new (Fm.set (p:=H.length) (o:=.lst ([]++[t2]++[t5])) (S:=[H.length]) (by simp)) (by simp))
     rw[ew] at this; exact this
theorem Zuj {ks:List D} {rss:List (List Int)} (c:Cl ks rss) (q:∀ t H',PlanD ks rss (W ks rss ks.length []) [] t->Fm [] H H'->Q (.tup [Za5 (W ks rss ks.length []),t]) H'):wE (Zmd [Zao ks rss] H) Q:=by
 have h8:=c.h8
 refine Zbf rfl ?_
 show wS (Zm8 [some (Zao ks rss)] H) _
 unfold Zm8
 fail "g"
 refine Zy1 c fun kvs r H1 g1 d1 x1=>?_
 fail "g"
 refine(Zz2 c 22).1 ks.length [] kvs r false H1 _ (by omega) (by simp) g1 d1 fun t H2 pt x2=>?_
 fail "g"
 exact q t H2 pt (x1.trans x2)
theorem Ydm {t:TF} {f g:SF} {σ:SD} {R:FD->SD->HD->Prop} (B:Bool) (h:wT (t σ H) fun b H'=>H'=H/\b=B) (ht:B=true->wS (f σ H) R) (hf:B=false->wS (g σ H) R):wS (sIf t f g σ H) R:=by
 obtain⟨b,H1,e,rfl,rfl⟩:=h
 exact w_if ⟨_,_,e,ht,hf⟩
theorem w_mix {cell k:Int} (h0:0<=k) (h1:k<=100) (q:∀ r H',0<=r->r<2147483648->Fm [] H H'->Q (.int r) H'):wE (Zjb [.int cell,.int k] H) Q:=by
 refine Zbf rfl ?_
 show wS (Zfe [some (.int cell),some (.int k),none,none] H) _
 unfold Zfe
 obtain⟨P,hP,hP2,eP⟩:∃ P:Int,0<P/\P<2147483648/\atI [D.int 2147483647,.int 2147483629,.int 2147483587,.int 2147483579,.int 2147483563,.int 2147483549,.int 2147483543] (k % 7)=some (.int P):=by
  rcases(show k % 7=0\/k % 7=1\/k % 7=2\/k % 7=3\/k % 7=4\/k % 7=5\/k % 7=6 by omega) with h | h | h | h | h | h | h<;>rw[h]
  ·exact⟨2147483647,by omega,by omega,rfl⟩
  ·exact⟨2147483629,by omega,by omega,rfl⟩
  ·exact⟨2147483587,by omega,by omega,rfl⟩
  ·exact⟨2147483579,by omega,by omega,rfl⟩
  ·exact⟨2147483563,by omega,by omega,rfl⟩
  ·exact⟨2147483549,by omega,by omega,rfl⟩
  ·exact⟨2147483543,by omega,by omega,rfl⟩
 fail "g"
 refine w_ixR last eP ?_
 fail "g"
 have c0:=Waw cell (show (998244353:Int)≠0 by decide)
 have c1:=Wap cell (show (0:Int)<998244353 by decide)
 generalize cell % 998244353=c at *
 refine w_mulL (by omega) (by omega) ?_
 fail "g"
 refine w_mulL (by omega) (by omega) ?_
 fail "g"
 refine w_mod hP ?_
 have a0:=Waw ((c+104729*(k+1))*(k*k+7*k+13)) (show P≠0 by omega)
 have a1:=Wap ((c+104729*(k+1))*(k*k+7*k+13)) hP
 generalize (c+104729*(k+1))*(k*k+7*k+13) % P=a at *
 fail "g"
 refine Zy6 (by decide) (by decide) (by omega) ?_
 fail "g"
 have b0:=Waw (a ^ (5:Int).toNat) (show (1000000007:Int)≠0 by decide)
 have b1:=Wap (a ^ (5:Int).toNat) (show (0:Int)<1000000007 by decide)
 generalize a ^ (5:Int).toNat % 1000000007=b at *
 refine w_mod hP ?_
 have d0:=Waw (b*48271+31*k+5) (show P≠0 by omega)
 have d1:=Wap (b*48271+31*k+5) hP
 generalize (b*48271+31*k+5) % P=d at *
 fail "g"
 refine Zy6 (by decide) (by decide) (by omega) ?_
 fail "g"
 have e0:=Waw (d ^ (3:Int).toNat) (show (998244353:Int)≠0 by decide)
 have e1:=Wap (d ^ (3:Int).toNat) (show (0:Int)<998244353 by decide)
 generalize d ^ (3:Int).toNat % 998244353=e at *
 exact q _ _ (by omega) (by omega) (Fm.app _)
def Zxg (ds:List Int):Prop:=∀ d∈ds,0<=d/\d<2147483648
theorem Zh1 {cell:Int} {many:Nat} (h1:many<=100) (q:∀ (ds:List Int) p H',ds.length=many->Zxg ds->H'[p]? = some (.lst (ds.map .int))->H.length<=p->Fm [] H H'->Q (.ref p) H'):wE (Zcf [.int cell,.int many] H) Q:=by
 refine Zbf rfl ?_
 show wS (Zc3 [some (.int cell),some (.int many),none,none,none,none] H) _
 unfold Zc3
 fail "g"
 refine Zy6 (by decide) (by decide) (by decide) ?_
 fail "g"
 generalize decide ((10:Int) ^ (18:Int).toNat<=Zas cell)=wide
 refine⟨_,rfl,⟨by omega,by omega⟩,?_⟩
 rw[show ((many:Int)).toNat=many by omega]
 refine Zc6 (fun d t σ H'=>d++t=Zba 0 many/\∃ (ds:List Int) (L:Int) (z5:Option D),ds.length=d.length/\Zxg ds/\H'[H.length]? = some (.lst (ds.map .int))/\Fm [H.length] (H++[.lst []]) H'/\0<=L/\σ=[some (.int cell),some (.int many),some (.ref H.length),some (.int L),some (.bl wide),z5]) (fun _ _ _ _ _=>Zh3) (fun d x t σ H1 ⟨e0,ds,L,z5,e1,e2,e3,x1,hL,e5⟩=>?_) (fun d σ H1 ⟨e0,ds,L,z5,e1,e2,e3,x1,hL,e5⟩=>?_) _ [] _ _ ⟨rfl,[],Zas cell,_,rfl,(by intro d h; cases h),last,Fm.refl,(by unfold Zas; split<;>omega),rfl⟩
 ·subst e5
  have hx:x∈Zba 0 many:=by rw[<- e0]; simp
  simp only[Zba,Xx,Wbi] at hx
  obtain⟨i,hi,rfl⟩:=hx
  have hd:d.length<=100:=by
   have:=congrArg Wbo e0
   simp[Zba] at this
   omega
  fail "g"
  refine Ydm (wide&&decide (0<L)) ?_ (fun h=>?_) (fun h=>?_)
  ·fail "g"
   cases wide
   ·exact⟨(fun z=>nomatch z),fun _=>⟨rfl,rfl⟩⟩
   ·refine⟨fun _=>?_,(fun z=>nomatch z)⟩
    fail "g"
    exact⟨rfl,by simp⟩
  ·fail "g"
   refine⟨isl e3,?_⟩
   fail "g"
   refine Zhf e3 (by simp; omega) ?_
   fail "g"
   have m0:=Waw L (show (10007:Int)≠0 by decide)
   have m1:=Wap L (show (0:Int)<10007 by decide)
   refine⟨by rw[<- e0]; simp,ds++[L % 10007],L / 10007,_,by simp[e1],?_,?_,x1.trans (Fm.set (by simp)),Int.ediv_nonneg hL (by decide),rfl⟩
   ·intro y hy
    rcases Xv.mp hy with h | h
    ·exact e2 y h
    ·simp at h; subst h; exact⟨m0,by omega⟩
   ·rw[Wae]; exact Zjl e3
  ·fail "g"
   refine⟨isl e3,?_⟩
   fail "g"
   refine w_mix (by omega) (by omega) fun r H2 r0 r1 x2=>?_
   fail "g"
   have e3':=x2.lst (by simp) e3
   refine Zhf e3' (by simp; omega) ?_
   fail "g"
   refine⟨by rw[<- e0]; simp,ds++[r],L,_,by simp[e1],?_,?_,(x1.trans (x2.sub (by simp))).trans (Fm.set (by simp)),hL,rfl⟩
   ·intro y hy
    rcases Xv.mp hy with h | h
    ·exact e2 y h
    ·simp at h; subst h; exact⟨r0,r1⟩
   ·rw[Wae]; exact Zjl e3'
 ·subst e5
  have hd:d.length=many:=by
   have:=congrArg Wbo e0
   simpa [Zba] using this
  fail "g"
  exact q ds _ H1 (by omega) e2 e3 (Xd _) ((Fm.app (S:=[]) _).new x1 (by intro m hm _; simp at hm; omega))
theorem Zdj {p:Nat} {ds:List Int} {i:Int} (g:H[p]? = some (.lst (ds.map .int))) (hd:Zxg ds) (h0:0<=i) (h1:i<ds.length) (q:∀ r,0<=r->r<2147483648->Q (.int r) H):wE (ixD (.ref p) (.int i) H) Q:=by
 have lt:i.toNat<ds.length:=by omega
 have hm:=hd _ (Wac lt)
 exact w_ixR g (Zi2 h0 (d:=.int ds[i.toNat]) (by rw[Xp,Xn lt]; rfl)) (q _ hm.1 hm.2)
theorem Zxx {r:Int} (h0:0<=r) (h1:r<2):∃ k,Zb6 k/\atI [D.str "all",.str "some"] r=some k:=by
 rcases(show r=0\/r=1 by omega) with rfl | rfl
 ·exact⟨_,.inl rfl,rfl⟩
 ·exact⟨_,.inr rfl,rfl⟩
theorem Yc4 {r:Int} (h0:0<=r) (h1:r<2):∃ k,Zb6 k/\atI [D.str "some",.str "all"] r=some k:=by
 rcases(show r=0\/r=1 by omega) with rfl | rfl
 ·exact⟨_,.inr rfl,rfl⟩
 ·exact⟨_,.inl rfl,rfl⟩
theorem mod2 (r:Int):0<=r % 2/\r % 2<2:=by omega
theorem Zzy {p:Nat} {ds:List Int} {many:Nat} (g:H[p]? = some (.lst (ds.map .int))) (hd:Zxg ds) (hl:many+1<=ds.length) (h100:many<=100) (q:∀ ks H',(∀ d∈ks,Zb6 d)->ks.length=many->Fm [] H H'->Q (.tup ks) H'):wE (Zfx [.ref p,.int many] H) Q:=by
 refine Zbf rfl ?_
 show wS (Zdr [some (.ref p),some (.int many),none,none,none] H) _
 unfold Zdr
 fail "g"
 have hp:p<H.length:=(Xc.mp g).1
 refine⟨_,rfl,⟨by omega,by omega⟩,?_⟩
 rw[show ((many:Int)).toNat=many by omega]
 refine Zc6 (fun d t σ H'=>d++t=Zba 0 many/\∃ (ks:List D) (z3 z4:Option D),ks.length=d.length/\(∀ d∈ks,Zb6 d)/\H'[H.length]? = some (.lst ks)/\Fm [H.length] (H++[.lst []]) H'/\σ=[some (.ref p),some (.int many),some (.ref H.length),z3,z4]) (fun _ _ _ _ _=>Zh3) (fun d x t σ H1 ⟨e0,ks,z3,z4,e1,e2,e3,x1,e5⟩=>?_) (fun d σ H1 ⟨e0,ks,z3,z4,e1,e2,e3,x1,e5⟩=>?_) _ [] _ _ ⟨rfl,[],_,_,rfl,(by intro d h; cases h),last,Fm.refl,rfl⟩
 ·subst e5
  have hx:x∈Zba 0 many:=by rw[<- e0]; simp
  simp only[Zba,Xx,Wbi] at hx
  obtain⟨i,hi,rfl⟩:=hx
  have hdl:d.length<=100:=by
   have:=congrArg Wbo e0
   simp[Zba] at this
   omega
  have gp:H1[p]? = some (.lst (ds.map .int)):=x1.lst (by simp; omega) (appL g)
  have Jn:∀ (L:List D) {H2:HD},Fm [H.length] (H++[.lst []]) H2->H2[p]? = some (.lst (ds.map .int))->H2[H.length]? = some (.lst ks)->Fm [H.length] (H++[.lst []]) (H2++[.lst L])/\(H2++[.lst L])[p]? = some (.lst (ds.map .int))/\(H2++[.lst L])[H.length]? = some (.lst ks):=fun L H2 a b c=>⟨a.trans (Fm.app _),appL b,appL c⟩
  refine w_gnm (w_seq ?_)
  refine Zsp (fun σ H2=>(Fm [H.length] (H++[.lst []]) H2/\H2[p]? = some (.lst (ds.map .int))/\H2[H.length]? = some (.lst ks))/\∃ k,Zb6 k/\σ=[some (.ref p),some (.int many),some (.ref H.length),some (.int (0+i)),some k]) ?_ ?_
  ·fail "g"
   refine Zdj (appL gp) hd (by omega) (by omega) fun r r0 r1=>?_
   fail "g"
   obtain⟨k,hk,ek⟩:=Zxx (mod2 r).1 (mod2 r).2
   refine w_ixR last ek ?_
   exact⟨rfl,Jn _ x1 gp e3,k,hk,rfl⟩
  rintro _ H2 ⟨⟨x2,g2,e4⟩,k,hk,rfl⟩
  refine w_seq (Zsp (fun σ H2=>(Fm [H.length] (H++[.lst []]) H2/\H2[p]? = some (.lst (ds.map .int))/\H2[H.length]? = some (.lst ks))/\∃ k,Zb6 k/\σ=[some (.ref p),some (.int many),some (.ref H.length),some (.int (0+i)),some k]) ?_ ?_)
  ·(refine WP.w_if ?_; fail "g")
   refine Zdj g2 hd (by omega) (by omega) fun r r0 r1=>?_
   fail "g"
   refine⟨fun h=>?_,fun h=>?_⟩
   ·fail "g"
    refine Zdj (appL g2) hd (by omega) (by omega) fun r' r0' r1'=>?_
    fail "g"
    obtain⟨k2,hk2,ek2⟩:=Yc4 (mod2 (0+(i:Int)+r')).1 (mod2 _).2
    refine w_ixR last ek2 ?_
    fail "g"
    exact⟨rfl,Jn _ x2 g2 e4,k2,hk2,rfl⟩
   ·fail "g"
    exact⟨rfl,⟨x2,g2,e4⟩,k,hk,rfl⟩
  rintro _ H3 ⟨⟨x3,g3,e6⟩,k,hk,rfl⟩
  refine w_seq (Zsp (fun σ H2=>(Fm [H.length] (H++[.lst []]) H2/\H2[p]? = some (.lst (ds.map .int))/\H2[H.length]? = some (.lst ks))/\∃ k,Zb6 k/\σ=[some (.ref p),some (.int many),some (.ref H.length),some (.int (0+i)),some k]) ?_ ?_)
  ·(refine WP.w_if ?_; fail "g")
   refine Zdj g3 hd (by omega) (by omega) fun r r0 r1=>?_
   fail "g"
   refine⟨fun h=>?_,fun h=>?_⟩
   ·fail "g"
    refine Zdj (appL g3) hd (by omega) (by omega) fun r' r0' r1'=>?_
    fail "g"
    obtain⟨k2,hk2,ek2⟩:=Zxx (r:=if decide (0<r' % 3)=true then 1 else 0) (by split<;>omega) (by split<;>omega)
    refine w_ixR last ek2 ?_
    fail "g"
    exact⟨rfl,Jn _ x3 g3 e6,k2,hk2,rfl⟩
   ·fail "g"
    exact⟨rfl,⟨x3,g3,e6⟩,k,hk,rfl⟩
  rintro _ H4 ⟨⟨x4,g4,e7⟩,k,hk,rfl⟩
  fail "g"
  refine⟨isl e7,?_⟩
  fail "g"
  refine Zhf e7 (by omega) ?_
  fail "g"
  refine⟨by rw[<- e0]; simp,ks++[k],_,_,by simp[e1],?_,Zjl e7,x4.trans (Fm.set (by simp)),rfl⟩
  intro y hy
  rcases Xv.mp hy with h | h
  ·exact e2 y h
  ·simp at h; subst h; exact hk
 ·subst e5
  have hdl:d.length=many:=by
   have:=congrArg Wbo e0
   simpa [Zba] using this
  fail "g"
  exact q ks H1 e2 (by omega) ((Fm.app (S:=[]) _).new x1 (by intro m hm _; simp at hm; omega))
theorem Zsy {m:Int}:∀ (ls:List Int) (last l:Int),Up m last ls->(∀ x∈ls,Zas x<Zas l)->last<Zas l->Zas l<=m->Up m last (ls++[l])
 | [],last,l,_,_,h1,h2=>⟨h1,h2,trivial⟩
 | x::r,last,l,u,h,h1,h2=>by
  obtain⟨u1,u2,u3⟩:=u
  exact⟨u1,u2,Zsy r (Zas x) l u3 (fun y hy=>h y (by simp[hy])) (h x (by simp)) h2⟩
theorem Zmq (lo:Int) (m:Nat):Zba lo (m+1)=.int lo::Zba (lo+1) m:=by
 unfold Zba
 rw[Wej,Xq,Wbt]
 have e0:D.int (lo+((0:Nat):Int))=.int lo:=by simp
 rw[e0]
 refine congrArg (Wbu _) (Wdr fun a _=>?_)
 show D.int _=D.int _
 congr 1
 omega
theorem Zyx {cell:Int} {M:Nat} {wide:Int} (hM:M<=8) (q:∀ ls H',Up M 0 ls->Fm [] H H'->Q (Zay ls) H'):wE (Zic [.int cell,.int M,.int wide] H) Q:=by
 refine Zbf rfl ?_
 show wS (Ze7 [some (.int cell),some (.int M),some (.int wide),none,none,none] H) _
 unfold Ze7
 fail "g"
 rw[show (M:Int)+1=((M+1:Nat):Int) by omega]
 refine Zh1 (by omega) fun ds p H1 l1 d1 g1 n1 x1=>?_
 fail "g"
 refine⟨_,rfl,⟨by omega,by omega⟩,?_⟩
 rw[Wag]
 refine Zc6 (fun d t σ H'=>∃ ls:List Int,t=Zba (d.length:Int) (M - d.length)/\H'[p]? = some (.lst (ds.map .int))/\H'[H1.length]? = some (.lst (ls.map .int))/\ls.length<=d.length/\d.length<=M/\Up M 0 ls/\(∀ x∈ls,Zas x<=d.length)/\Fm [] H H'/\∃ z,σ=[some (.int cell),some (.int M),some (.int wide),some (.ref p),some (.ref H1.length),z]) (fun _ _ _ _ _=>Zh3) (fun d x t σ H2 ⟨ls,i1,i2,i3,i4,i5,i6,i7,i8,z,i9⟩=>?_) (fun d σ H2 ⟨ls,i1,i2,i3,i4,i5,i6,i7,i8,z,i9⟩=>?_) _ [] _ _ ⟨[],by simp,appL g1,last,by simp,by simp,trivial,by simp,x1.trans (Fm.app _),none,rfl⟩
 ·subst i9
  obtain⟨k,hk⟩:∃ k,M - d.length=k+1:=by
   cases h:M - d.length with
   | zero=>rw[h] at i1; simp[Zba] at i1
   | succ k=>exact⟨k,rfl⟩
  rw[hk,Zmq] at i1
  obtain⟨rfl,rfl⟩:=Wbu.inj i1
  have tl:Zba ((d.length:Int)+1) k=Zba (((d++[D.int (d.length:Int)]).length:Nat):Int) (M - (d++[D.int (d.length:Int)]).length):=by
   simp only[Xl,Wdg,Wav]
   congr 1
   omega
  fail "i"
  refine Zdj i2 d1 (by omega) (by omega) fun r r0 r1=>?_
  fail "g"
  refine w_mod (by omega) ?_
  fail "g"
  refine Zdj i2 d1 (by omega) (by omega) fun r' r0' r1'=>?_
  fail "g"
  refine⟨fun h=>?_,fun h=>?_⟩
  ·fail "g"
   refine⟨isl i3,?_⟩
   fail "g"
   refine Zdj (appL i2) d1 (by omega) (by omega) fun r2 r20 r21=>?_
   fail "g"
   refine w_fdiv (by omega) (by omega) ?_
   fail "g"
   have m2:r2 / ((M:Int)+1) % 2=0\/r2 / ((M:Int)+1) % 2=1:=by omega
   obtain⟨l,hl,el⟩:∃ l:Int,Zas l=(d.length:Int)+1/\atI [D.int ((d.length:Int)+1),.int (0 - (d.length:Int) - 1)] (r2 / ((M:Int)+1) % 2)=some (.int l):=by
    rcases m2 with z | z<;>rw[z]
    ·exact⟨_,by unfold Zas; split<;>omega,rfl⟩
    ·exact⟨_,by unfold Zas; split<;>omega,rfl⟩
   refine w_ixR last el ?_
   fail "g"
   refine Zhf (appL i3) (by simp; omega) ?_
   fail "g"
   have np:H1.length≠p:=by have:=(Xc.mp g1).1; omega
   refine⟨ls++[l],tl,Zvk np (appL i2),by rw[Zjl (appL i3)]; simp,by simp; omega,by simp; omega,Zsy ls 0 l i6 (fun x hx=>by have:=i7 x hx; omega) (by omega) (by omega),fun x hx=>?_,?_,_,rfl⟩
   ·rcases Xv.mp hx with z | z
    ·have:=i7 x z; simp; omega
    ·simp at z; subst z; simp; omega
   ·exact(i8.trans (Fm.app _)).new (Fm.set (S:=[H1.length]) (by simp)) (fun q hq _=>by simp at hq; subst hq; exact x1.len)
  ·fail "g"
   exact⟨ls,tl,i2,i3,by simp; omega,by simp; omega,i6,fun x hx=>by have:=i7 x hx; simp; omega,i8,_,rfl⟩
 ·subst i9
  fail "g"
  exact q ls H2 i6 i8
nonrec def Zdv (ks:List D) (x:Int):Bool := !kS (ks.getD ((Zas x).toNat - 1) .non)
nonrec def Zbm (ks:List D):List Int->List Int
 | []=>[]
 | l::r=>if (l::r).all (Zdv ks)=true then [] else l::Zbm ks r
theorem Zmr (ks:List D):∀ b:List Int,(∀ x∈b,Zdv ks x=true)->Zbm ks b=[]
 | [],_=>rfl
 | x::r,h=>by rw[Zbm,if_pos (Wab.mpr h)]
theorem Zja (ks:List D):∀ (a b:List Int),(∀ x∈b,Zdv ks x=true)->(∀ x,a.getLast? = some x->Zdv ks x=false)->Zbm ks (a++b)=a
 | [],b,hb,_=>Zmr ks b hb
 | l::a,b,hb,ha=>by
  have hx:=ha _ Wdx
  have hm:a.getLast?.getD l∈l::a:=Wdk (Wdx (a:=l) (l:=a))
  have hn:¬ ((l::(a++b)).all (Zdv ks)=true):=fun z=>by
   have:=Wab.mp z _ (by rw[<- Wcc]; exact Wba _ hm)
   rw[hx] at this; cases this
  rw[Wcc,Zbm,if_neg hn,Zja ks a b hb fun x h=>ha x (by rw[Wdx,h]; rfl)]
theorem Zgp (ks:List D):∀ a:List Int,(Zbm ks a).Sublist a
 | []=>.slnil
 | l::r=>by
  rw[Zbm]
  split
  ·exact List.nil_sublist _
  ·exact(Zgp ks r).cons₂ l
structure R (M:Nat) (ls:List Int):Prop where
 nd:(ls.map Zas).Nodup
 rg:∀ x∈ls,1<=Zas x/\Zas x<=M
theorem R.sub {M:Nat} {a b:List Int} (h:R M b) (s:a.Sublist b):R M a:=⟨(s.map Zas).nodup h.nd,fun x hx=>h.rg x (s.subset hx)⟩
theorem R.perm {M:Nat} {a b:List Int} (h:R M b) (s:a.Perm b):R M a:=⟨(s.map Zas).nodup_iff.mpr h.nd,fun x hx=>h.rg x (s.mem_iff.mp hx)⟩
theorem Zx2:∀ (M:Nat) (l:List Int),l.Nodup->(∀ x∈l,1<=x/\x<=(M:Int))->l.length<=M
 | 0,[],_,_=>Xd _
 | 0,x::r,_,h=>by have:=h x (by simp); omega
 | M+1,l,nd,h=>by
  have:=Zx2 M (l.erase ((M:Int)+1)) (nd.erase _) fun x hx=>by
   have h1:=h x (List.mem_of_mem_erase hx)
   have h2:x≠(M:Int)+1:=fun z=>by subst z; exact(List.Nodup.not_mem_erase nd) hx
   omega
  have h3:=List.length_erase (a:=(M:Int)+1) (l:=l)
  split at h3<;>omega
theorem R.len {M:Nat} {ls:List Int} (h:R M ls):ls.length<=M:=by
 have:=Zx2 M (ls.map Zas) h.nd fun x hx=>by
  obtain⟨y,hy,rfl⟩:=Xx.mp hx
  exact h.rg y hy
 simpa using this
theorem R.inj {M:Nat} {ls:List Int} (h:R M ls) {x y:Int} (hx:x∈ls) (hy:y∈ls) (e:Zas x=Zas y):x=y:=by
 obtain⟨i,hi,rfl⟩:=Wev.mp hx
 obtain⟨j,hj,rfl⟩:=Wev.mp hy
 have:=(Wfq (xs:=ls.map Zas) (i:=i) (j:=j) (h₀:=by simpa using hi) (h₁:=by simpa using hj) h.nd).mp (by simpa using e)
 subst this; rfl
theorem Zpf {M:Nat}:∀ {ls:List Int} {last:Int},0<=last->Up M last ls->R M ls/\∀ x∈ls,last<Zas x
 | [],_,_,_=>⟨⟨.nil,by simp⟩,by simp⟩
 | l::r,last,h0,u=>by
  obtain⟨u1,u2,u3⟩:=u
  obtain⟨h1,h2⟩:=Zpf (by omega) u3
  refine⟨⟨?_,fun x hx=>?_⟩,fun x hx=>?_⟩
  ·rw[Xq,Wbk]
   refine⟨fun z=>?_,h1.nd⟩
   obtain⟨y,hy,e⟩:=Xx.mp z
   have:=h2 y hy
   omega
  ·rcases Xh.mp hx with rfl | hx
   ·omega
   ·exact h1.rg x hx
  ·rcases Xh.mp hx with rfl | hx
   ·exact u1
   ·have:=h2 x hx; omega
theorem Zit (x:Int):Zas (-x)=Zas x:=by unfold Zas; split<;>split<;>omega
theorem Zro {x y:Int} (h:Zas x=Zas y):x=y\/x = -y:=by unfold Zas at h; split at h<;>split at h<;>omega
nonrec def Zea (a b:List Int) (n:Int):Option (List Int) :=
 if n∉a \/ -n∉b then none
 else if (b.filter fun x=>decide (x ≠ -n)).any (fun x=>decide (-x∈a.filter fun x=>decide (x≠n)))=true then none
 else some (Zdb ((a.filter fun x=>decide (x≠n))++(b.filter fun x=>decide (x ≠ -n)).filter fun x=>decide (x∉a.filter fun x=>decide (x≠n))))
theorem R.join0 {M:Nat} {a b:List Int} (ha:R M a) (hb:R M b) (h:b.any (fun x=>decide (-x∈a))=false):R M (a++b.filter fun x=>decide (x∉a)):=by
 have hb':=hb.sub (Wax (p:=fun x=>decide (x∉a)) (l:=b))
 refine⟨?_,fun x hx=>?_⟩
 ·rw[Wae,Wat]
  refine⟨ha.nd,hb'.nd,fun x hx y hy e=>?_⟩
  obtain⟨u,hu,rfl⟩:=Xx.mp hx
  obtain⟨v,hv,rfl⟩:=Xx.mp hy
  obtain⟨hv1,hv2⟩:=Wad.mp hv
  rcases Zro e with z | z
  ·rw[z] at hu
   exact(of_decide_eq_true hv2) hu
  ·have:=Wcm.mp h v hv1
   rw[z] at hu
   exact this (decide_eq_true hu)
 ·rcases Xv.mp hx with z | z
  ·exact ha.rg x z
  ·exact hb'.rg x z
theorem R.join {M:Nat} {a b c:List Int} {n:Int} (ha:R M a) (hb:R M b) (h:Zea a b n=some c):R M c:=by
 unfold Zea at h
 split at h
 ·cases h
 ·split at h
  ·cases h
  ·rename_i h2
   cases h
   exact(R.join0 (ha.sub Wax) (hb.sub Wax) (by simpa using h2)).perm (Zch _)
nonrec def stp (ks:List D) (rss made:List (List Int)) (d:D):Option (List Int):=match d with
 | .tup [.str s,.int i]=>if s = "less" then (if 0<=i/\i<made.length then some (Zbm ks (made.getD i.toNat [])) else none)
  else if s = "row" then (if 0<=i/\i<rss.length then some (rss.getD i.toNat []) else none) else none
 | .tup [.str s,.int i,.int j,.int n]=>if s = "joined" /\ (0<=i/\i<made.length)/\(0<=j/\j<made.length)/\(1<=n/\n<=ks.length)/\Zdv ks n=false then Zea (made.getD i.toNat []) (made.getD j.toNat []) n else none
 | _=>none
nonrec def mad (ks:List D) (rss:List (List Int)):List (List Int)->List D->List (List Int)
 | made,[]=>made
 | made,d::r=>match stp ks rss made d with
  | none=>made
  | some x=>mad ks rss (made++[x]) r
nonrec def mok (ks:List D) (rss:List (List Int)):List (List Int)->List D->Bool
 | _,[]=>true
 | made,d::r=>match stp ks rss made d with
  | none=>false
  | some x=>mok ks rss (made++[x]) r
theorem Zgg (ks:List D) (rss:List (List Int)):∀ (ds:List D) (made:List (List Int)),mok ks rss made ds=true->(mad ks rss made ds).length=made.length+ds.length
 | [],made,_=>rfl
 | d::r,made,h=>by
  unfold mok at h
  unfold mad
  cases e:stp ks rss made d with
  | none=>rw[e] at h; cases h
  | some x =>
   rw[e] at h
   simp only
   rw[Zgg ks rss r _ h]
   simp; omega
theorem Zi3 (ks:List D) (rss:List (List Int)):∀ (a b:List D) (made:List (List Int)),mok ks rss made (a++b)=(mok ks rss made a&&mok ks rss (mad ks rss made a) b)
 | [],b,made=>rfl
 | d::r,b,made=>by
  rw[Wcc]
  cases e:stp ks rss made d with
  | none=>simp only[mok,e,Wfx]
  | some x=>simp only[mok,mad,e]; exact Zi3 ks rss r b _
theorem Zkm (ks:List D) (rss:List (List Int)):∀ (a b:List D) (made:List (List Int)),mok ks rss made a=true->mad ks rss made (a++b)=mad ks rss (mad ks rss made a) b
 | [],b,made,_=>rfl
 | d::r,b,made,h=>by
  rw[Wcc]
  cases e:stp ks rss made d with
  | none=>simp only[mok,e] at h; cases h
  | some x=>simp only[mok,e] at h; simp only[mad,e]; exact Zkm ks rss r b _ h
theorem stp_R {ks:List D} {rss made:List (List Int)} {d:D} {x:List Int} (hr:∀ ls∈rss,R ks.length ls) (hm:∀ ls∈made,R ks.length ls) (h:stp ks rss made d=some x):R ks.length x:=by
 have get:∀ {l:List (List Int)} {i:Int},(∀ ls∈l,R ks.length ls)->0<=i/\i<l.length->R ks.length (l.getD i.toNat []):=fun hl hi=>by
  refine hl _ ?_
  rw[War,Xn (by omega)]
  exact Wac _
 unfold stp at h
 split at h
 ·split at h
  ·split at h
   ·rename_i hi; cases h; exact(get hm hi).sub (Zgp ks _)
   ·cases h
  ·split at h
   ·split at h
    ·rename_i hi; cases h; exact get hr hi
    ·cases h
   ·cases h
 ·split at h
  ·rename_i hc; exact R.join (get hm hc.2.1) (get hm hc.2.2.1) h
  ·cases h
 ·cases h
theorem Zvp {ks:List D} {rss:List (List Int)} (hr:∀ ls∈rss,R ks.length ls):∀ (ds:List D) (made:List (List Int)),(∀ ls∈made,R ks.length ls)->∀ ls∈mad ks rss made ds,R ks.length ls
 | [],made,hm=>hm
 | d::r,made,hm=>by
  unfold mad
  cases e:stp ks rss made d with
  | none=>exact hm
  | some x =>
   refine Zvp hr r _ fun ls h=>?_
   rcases Xv.mp h with z | z
   ·exact hm ls z
   ·simp at z; subst z; exact stp_R hr hm e
theorem Zph:∀ l:List Int,l.Pairwise (· <= ·)->l.Nodup->l.Pairwise (· < ·)
 | [],_,_=>.nil
 | x::r,p,nd=>by
  rw[Wdv] at p ⊢
  rw[Wbk] at nd
  refine⟨fun y hy=>?_,Zph r p.2 nd.2⟩
  have:=p.1 y hy
  have:x≠y:=fun z=>nd.1 (z ▸ hy)
  omega
theorem Zo4 {M:Nat} {fs:List Int} (h:R M fs):Up M 0 (Zdb fs):=by
 have h2:=h.perm (Zch fs)
 refine Ybo _ 0 (Zph _ ?_ h2.nd) fun x hx=>?_
 ·have:=Zpl fs
  rw[Wed]
  exact this
 ·obtain⟨y,hy,rfl⟩:=Xx.mp hx
  have:=h2.rg y hy
  omega
theorem Zcx (ks:List D):∀ ls:List Int,∃ tl,ls=Zbm ks ls++tl/\∀ x∈tl,Zdv ks x=true
 | []=>⟨[],rfl,by simp⟩
 | l::r=>by
  rw[Zbm]
  split
  ·rename_i h; exact⟨l::r,rfl,Wab.mp h⟩
  ·obtain⟨tl,e,h⟩:=Zcx ks r
   exact⟨tl,by rw[Wcc,<- e],h⟩
theorem Zqa {m:Int}:∀ {a b:List Int} {last:Int},Up m last (a++b)->Up m last a
 | [],_,_,_=>trivial
 | x::a,b,last,h=>⟨h.1,h.2.1,Zqa h.2.2⟩
theorem Ydz {m:Int}:∀ {a:List Int} {last:Int},Up m last a->∀ x∈a,last<Zas x
 | [],_,_,x,hx=>by cases hx
 | y::a,last,h,x,hx=>by
  obtain⟨h1,h2,h3⟩:=h
  rcases Xh.mp hx with rfl | hx
  ·exact h1
  ·have:=Ydz h3 x hx; omega
theorem Zpz {m:Int}:∀ {a b:List Int} {last:Int},Up m last (a++b)->∀ x∈a,∀ y∈b,Zas x<Zas y
 | [],_,_,_,x,hx,_,_=>by cases hx
 | z::a,b,last,h,x,hx,y,hy=>by
  obtain⟨h1,h2,h3⟩:=h
  rcases Xh.mp hx with rfl | hx
  ·exact Ydz h3 y (Xr _ hy)
  ·exact Zpz h3 x hx y hy
theorem Yc6 {ks:List D} {rss made:List (List Int)} {d:D} {x:List Int} (hr:∀ ls∈rss,Up ks.length 0 ls) (hm:∀ ls∈made,Up ks.length 0 ls) (h:stp ks rss made d=some x):Up ks.length 0 x:=by
 have toR:∀ {l:List Int},Up ks.length 0 l->R ks.length l:=fun u=>(Zpf (by omega) u).1
 have get:∀ {l:List (List Int)} {i:Int},(∀ ls∈l,Up ks.length 0 ls)->0<=i/\i<l.length->Up ks.length 0 (l.getD i.toNat []):=fun hl hi=>by
  refine hl _ ?_
  rw[War,Xn (by omega)]
  exact Wac _
 unfold stp at h
 split at h
 ·split at h
  ·split at h
   ·rename_i hi
    cases h
    obtain⟨tl,e,_⟩:=Zcx ks (made.getD _ [])
    have:=get hm hi
    rw[e] at this
    exact Zqa this
   ·cases h
  ·split at h
   ·split at h
    ·rename_i hi; cases h; exact get hr hi
    ·cases h
   ·cases h
 ·split at h
  ·rename_i hc
   have ha:=toR (get hm hc.2.1)
   have hb:=toR (get hm hc.2.2.1)
   unfold Zea at h
   split at h
   ·cases h
   ·split at h
    ·cases h
    ·rename_i h2
     cases h
     exact Zo4 (R.join0 (ha.sub Wax) (hb.sub Wax) (by simpa using h2))
  ·cases h
 ·cases h
theorem Zu9 {ks:List D} {rss:List (List Int)} (hr:∀ ls∈rss,Up ks.length 0 ls):∀ (ds:List D) (made:List (List Int)),(∀ ls∈made,Up ks.length 0 ls)->∀ ls∈mad ks rss made ds,Up ks.length 0 ls
 | [],made,hm=>hm
 | d::r,made,hm=>by
  unfold mad
  cases e:stp ks rss made d with
  | none=>exact hm
  | some x =>
   refine Zu9 hr r _ fun ls h=>?_
   rcases Xv.mp h with z | z
   ·exact hm ls z
   ·simp at z; subst z; exact Yc6 hr hm e
theorem Zvc (ks:List D) (rss:List (List Int)):∀ (ds:List D) (made:List (List Int)),∃ t,mad ks rss made ds=made++t
 | [],made=>⟨[],by simp[mad]⟩
 | d::r,made=>by
  unfold mad
  cases e:stp ks rss made d with
  | none=>exact⟨[],by simp⟩
  | some x =>
   obtain⟨t,h⟩:=Zvc ks rss r (made++[x])
   exact⟨[x]++t,by simp only; rw[h]; simp⟩
theorem Ycl {ks:List D} {rss:List (List Int)} {ds:List D} (ok:mok ks rss [] ds=true) {m:Nat} (hm:m<ds.length):∃ x,(mad ks rss [] ds)[m]? = some x/\stp ks rss ((mad ks rss [] ds).take m) ds[m]=some x:=by
 have e:ds=ds.take m++ds[m]::ds.drop (m+1):=by rw[<- Wau hm,Wer]
 have ok1:=ok
 rw[e,Zi3,Wam] at ok1
 have l1:=Zgg ks rss _ [] ok1.1
 rw[Wav,Wcj,Way,Wdq (by omega)] at l1
 have e2:mad ks rss [] ds=mad ks rss (mad ks rss [] (ds.take m)) (ds[m]::ds.drop (m+1)):=by
  conv=>lhs; rw[e]
  exact Zkm _ _ _ _ _ ok1.1
 cases es:stp ks rss (mad ks rss [] (ds.take m)) ds[m] with
 | none =>
  have:=ok1.2
  simp only[mok,es] at this
  cases this
 | some x =>
  simp only[mad,es] at e2
  obtain⟨t,ht⟩:=Zvc ks rss (ds.drop (m+1)) (mad ks rss [] (ds.take m)++[x])
  rw[ht] at e2
  refine⟨x,?_,?_⟩
  ·rw[e2,Xw,Xo (by omega),l1,Wes]
   rfl
  ·rw[e2,Xw,Wdh (by omega),Weh (by omega)]
   exact es
theorem Zto {bs:List Bool} {l:Int} (h:1<=Zas l/\Zas l<=bs.length):rig bs (-l) = !rig bs l:=by
 unfold rig
 rw[Zit,Xn (by omega)]
 simp only
 have:decide (0 < -l) = !decide (0<l):=by
  by_cases z:0<l
  ·rw[decide_eq_true z,decide_eq_false (by omega)]; rfl
  ·rw[decide_eq_false z,decide_eq_true (by unfold Zas at h; split at h<;>omega)]; rfl
 rw[this]
 cases bs[(Zas l - 1).toNat]<;>cases decide (0<l)<;>rfl
theorem Zku {bs:List Bool} {l:Int} {k:Nat} (h:Zas l<=k) (h1:1<=Zas l):rig (bs.take k) l=rig bs l:=by
 unfold rig
 rw[Wbh (by omega)]
variable {σ:SD} {H:HD} {Q:D->HD->Prop}
theorem Zzp {ns:List Int} (H:HD) (k:Int) (Q:D->HD->Prop) (h0:0<=k) (h1:k<=1000) (q:∀ c,Q (.int c) H):wE (Zdw [.fl (ns.map .int),.int k] H) Q:=by
 refine Zbf rfl ?_
 show wS (Zgw [some (.fl (ns.map .int)),some (.int k)] H) _
 unfold Zgw
 fail "i"
 refine⟨fun h=>?_,fun h=>?_⟩
 ·have lt:k.toNat<ns.length:=by have:=of_decide_eq_true h; simp at this; omega
  fail "g"
  refine w_ixF (Zi2 h0 (d:=.int ns[k.toNat]) (by rw[Xp,Xn lt]; rfl)) ?_
  fail "g"
  exact q _
 ·fail "g"
  exact q _
theorem Zwn {p:Nat} {xs:List D} {k:Nat} (g:H[p]? = some (.lst xs)) (q:Q (.ref H.length) (H++[.lst (xs.drop k)])):wE (slD (.ref p) (some (k:Int)) none H) Q :=
 ⟨_,_,by rw[<- Zxu]; simp only[slD,g],q⟩
theorem Zxg.drop {ds:List Int} (h:Zxg ds) (k:Nat):Zxg (ds.drop k):=fun d hd=>h d (Wew hd)
theorem Zb9 (ls:List Int):Fines (ls.map .int) (ls.map .int) 0:=by
 induction ls with
 | nil=>exact .nil
 | cons l r ih=>exact .cons (.int l) ih
theorem Zzc {i n:Nat} {x:String} {F:FF} {f:AF} (h:σ[i]? = some (some (.ty x))) (q:wE (Zal n F f σ H) Q):wE (Zlr i n x F f σ H) Q:=by
 unfold Zlr; rw[h]; simpa using q
theorem Zx6 {xs:List D} {i:Nat} {d:D} (h:xs[i]? = some d):atI xs (i:Int)=some d:=Zbx h
theorem Zki {ks:List D} {x:Int} (hk:∀ d∈ks,Zb6 d) (h:1<=Zas x/\Zas x<=ks.length):atI ks (Zas x - 1)=some (Za5 (!Zdv ks x)):=by
 have e:Zas x - 1=(((Zas x).toNat - 1:Nat):Int):=by omega
 rw[e]
 refine Zbx ?_
 rw[Zf4 hk (by omega)]
 unfold Zdv
 rw[Wfp]
theorem Zua {b:Bool} (q:Q (.bl (!b)) H):wE (eqD (Za5 b) (.str "all") H) Q:=by
 refine⟨_,_,Zle b false H,?_⟩
 cases b<;>exact q
theorem Zlk {b:Bool} (q:Q (.bl b) H):wE (neD (Za5 b) (.str "all") H) Q:=by
 cases b
 ·exact⟨_,_,rfl,q⟩
 ·exact⟨_,_,rfl,q⟩
theorem Zj0 {ks:List D} {ls:List Int} (hk:∀ d∈ks,Zb6 d) (h8:ks.length<=8) (h:R ks.length ls) (q:Q (Zay (Zbm ks ls)) H):wE (Zfk [.tup ks,.str "all",Zay ls] H) Q:=by
 have hl:=h.len
 refine Zbf rfl ?_
 show wS (Zeg [some (.tup ks),some (.str "all"),some (.tup (ls.map .int)),none] H) _
 unfold Zeg
 fail "g"
 rw[Xk]
 refine Zob (fun m σ H'=>m<=ls.length/\H'=H/\(∀ x∈ls.drop m,Zdv ks x=true)/\σ=[some (.tup ks),some (.str "all"),some (.tup (ls.map .int)),some (.int (m:Int))]) (fun m σ H' ⟨i1,i2,i3,i4⟩=>?_) 20 ls.length _ _ (by omega) ⟨Xd _,rfl,by simp,rfl⟩
 subst i2 i4
 have fi:∀ m:Nat,(∀ x∈ls.drop m,Zdv ks x=true)->(∀ x,(ls.take m).getLast? = some x->Zdv ks x=false)->Zbm ks ls=ls.take m:=fun m h1 h2=>by
  have:=Zja ks (ls.take m) (ls.drop m) h1 h2
  rwa [Wer] at this
 have done:Zbm ks ls=ls.take m->Zz3 (fun σ1 H1=>wS (Zag (Zbl (eSl (Zac 2) Zfy (Ze2 (Zac 3)))) Zak σ1 H1) (fin Q)) (fin Q) .nx [some (.tup ks),some (.str "all"),some (.tup (ls.map .int)),some (.int (m:Int))] H':=fun e=>by
  fail "g"
  rw[<- Wfg,<- e]
  exact q
 fail "g"
 refine⟨fun z=>?_,fun z=>?_⟩
 ·have z:=of_decide_eq_true z
  obtain⟨m',rfl⟩:∃ m',m=m'+1:=⟨m - 1,by omega⟩
  have hm:m'<ls.length:=by omega
  have hr:=h.rg _ (Wac hm)
  fail "g"
  rw[show ((m'+1:Nat):Int) - 1=(m':Int) by omega]
  refine w_ixT (Zx6 (d:=.int ls[m']) (by simp[hm])) ?_
  fail "g"
  refine w_ixT (Zki hk hr) ?_
  fail "g"
  refine Zua ?_
  fail "g"
  rw[Wfp]
  refine⟨fun y=>⟨m',rfl,?_⟩,fun y=>?_⟩
  ·refine w_seq (wS_of (by with_unfolding_all rfl) ?_)
   fail "g"
   refine⟨by omega,rfl,fun x hx=>?_,?_⟩
   ·rw[Wau hm] at hx
    rcases Xh.mp hx with rfl | hx
    ·exact y
    ·exact i3 x hx
   ·show [some (D.tup ks),some (D.str "all"),some (D.tup (ls.map D.int)),some (D.int (((m'+1:Nat):Int) - 1))]=_
    rw[show ((m'+1:Nat):Int) - 1=(m':Int) by omega]
  ·refine done (fi _ i3 fun x hx=>?_)
   rw[List.take_succ_eq_append_getElem hm,Wdl] at hx
   simp at hx
   rw[<- hx]; exact y
 ·have z:=of_decide_eq_false z
  obtain rfl:m=0:=by omega
  fail "g"
  rw[<- Wfg,<- fi 0 i3 (by simp)]
  exact q
nonrec def Zw2:Option (List Int)->D
 | none=>.non
 | some ls=>Zay ls
theorem Zof (ls:List Int) (x:Int):((ls.map PyData.int).any fun z=>Ub z (.int x))=decide (x∈ls):=by
 rw[Wfu,Was,decide_eq_true_iff]
 constructor
 ·rintro⟨z,hz,e⟩
  obtain⟨y,hy,rfl⟩:=Xx.mp hz
  have:y=x:=by simpa [Ub] using e
  subst this; exact hy
 ·intro h
  exact⟨.int x,Xx.mpr ⟨x,h,rfl⟩,by simp[Ub]⟩
theorem w_inZ {x:Int} {ls:List Int} (q:Q (.bl (decide (x∈ls))) H):wE (inD (.int x) (.tup (ls.map .int)) H) Q:=w_inT (.int x) (Zb9 ls) (by omega) (by omega) (by rw[Zof]; exact q)
theorem Zn7 {x:Int} {ls:List Int} (q:Q (.bl (!decide (x∈ls))) H):wE (niD (.int x) (.tup (ls.map .int)) H) Q:=w_niT (.int x) (Zb9 ls) (by omega) (by omega) (by rw[Zof]; exact q)
theorem Zry {p r:Nat} {ds:List D} {xs:List Uaf} {h:Nat} (f:Fines ds xs h) (hh:h<30) (g1:H[p]? = some (.lst ds)) (g2:H[r]? = some (.lst [])) (q:Q (.bl (!ds.isEmpty)) H):wE (neD (.ref p) (.ref r) H) Q :=
 ⟨_,_,Zr1 (f.dat hh g1) (Fines.nil.dat (by omega:0<30) g2),by
  have e:Ub (.list xs) (.list [])=ds.isEmpty:=by
   cases ds with
   | nil=>have:=f.len; cases xs with | nil=>rfl | cons a b=>simp at this
   | cons d r=>have:=f.len; cases xs with | nil=>simp at this | cons a b=>simp[Ub,Uu]
  rw[e]; exact q⟩
theorem Zyn {xs:List D} (q:Q (.ref H.length) (H++[.lst xs])):wE (Zvu [.tup xs] H) Q:=⟨_,_,rfl,q⟩
theorem Zzs {p:Nat} {zs:List Int} (g:H[p]? = some (.lst (zs.map .int))) (hl:zs.length<=60) (nd:(zs.map Zas).Nodup) (q:Q (.ref H.length) (H++[.lst ((Zdb zs).map .int)])):wE (Znn [.ref p] H) Q:=by
 refine⟨_,_,?_,q⟩
 unfold Znn
 simp only[Zm0,g,Zb]
 have e:Zg3 (zs.map .int)=some zs:=by
  clear g nd hl q
  induction zs with
  | nil=>rfl
  | cons z r ih=>simp[Zg3,ih]
 rw[e]
 simp only[Zb]
 exact if_pos ⟨by omega,nd⟩
theorem Zwu {p:Nat} {zs:List Int} (g:H[p]? = some (.dci (zs.map fun x=>(x,.bl true)))) (hl:zs.length<=60) (nd:(zs.map Zas).Nodup) (q:Q (.ref H.length) (H++[.lst ((Zdb zs).map .int)])):wE (Zip [.ref p] H) Q:=by
 refine⟨_,_,?_,q⟩
 unfold Zip
 simp only[g]
 have e:(zs.map fun x=>(x,D.bl true)).map (·.1)=zs:=by rw[Wbt]; exact List.map_id' zs
 rw[e]
 exact if_pos ⟨by simp; omega,nd⟩
theorem Zta {ks:List D} {ls:List Int} (hk:∀ d∈ks,Zb6 d) (h8:ks.length<=8) (h:R ks.length ls) (q:∀ H',Fm [] H H'->Q (Zay (Zbm ks ls)) H'):wE (Zg8 [.tup ks,.str "all",Zay ls] H) Q:=by
 have hl:=h.len
 refine Zbf rfl ?_
 show wS (Zd6 [some (.tup ks),some (.str "all"),some (.tup (ls.map .int)),none,none,none,none] H) _
 unfold Zd6
 fail "g"
 refine⟨_,rfl,?_⟩
 refine Zc6 (fun d t σ H'=>∃ (pre r fs:List Int) (z3 z4 z5:Option D),ls=pre++r/\t=Zcs (pre.length:Int) (r.map .int)/\fs++Zbm ks r=Zbm ks ls/\fs.length<=pre.length/\H'[H.length]? = some (.lst (fs.map .int))/\Fm [] H H'/\σ=[some (.tup ks),some (.str "all"),some (.tup (ls.map .int)),some (.ref H.length),z3,z4,z5]) (fun _ _ _ _ _=>Zh3) (fun d x t σ H1 ⟨pre,r,fs,z3,z4,z5,i1,i2,i3,i4,i5,i6,i7⟩=>?_) (fun d σ H1 ⟨pre,r,fs,z3,z4,z5,i1,i2,i3,i4,i5,i6,i7⟩=>?_) _ [] _ _ ⟨[],ls,[],_,_,_,rfl,rfl,rfl,Xd _,last,Fm.app _,rfl⟩
 ·subst i7
  cases r with
  | nil=>cases i2
  | cons l r =>
   obtain⟨rfl,rfl⟩:=Wbu.inj (show x::t=.tup [.int (pre.length:Int),.int l]::Zcs ((pre.length:Int)+1) (r.map .int) from i2)
   have lp:pre.length<=8:=by rw[i1] at hl; simp at hl; omega
   have ed:(ls.map D.int).drop pre.length=(l::r).map D.int:=by rw[i1,<- Wcy,List.drop_left]
   fail "g"
   rw[ed]
   fail "g"
   refine Zeh (fun d=>match d with | .int x => !Zdv ks x | _=>true) (fun H'=>H'=H1) (fun _ j=>Zh3) _ (fun y hy H2 j=>?_) _ rfl fun H2 j=>?_
   ·obtain⟨z,hz,rfl⟩:=Xx.mp hy
    subst j
    have hr:=h.rg z (by rw[i1]; exact Xr _ hz)
    fail "g"
    refine w_ixT (Zki hk hr) ?_
    fail "g"
    refine Zlk ?_
    exact⟨_,rfl,rfl,rfl⟩
   ·subst j
    have ef:(((l::r).map D.int).filter fun d=>match d with | .int x => !Zdv ks x | _=>true)=((l::r).filter fun x => !Zdv ks x).map .int:=by
     rw[Wcl]
     rfl
    rw[ef]
    refine⟨by have:=Waq (fun x => !Zdv ks x) (l::r); rw[i1] at hl; simp at hl this ⊢; omega,?_⟩
    have tl:Zcs ((pre.length:Int)+1) (r.map .int)=Zcs (((pre++[l]).length:Nat):Int) (r.map .int):=by simp
    have hn:H.length≠H2.length:=by have:=(Xc.mp i5).1; omega
    fail "i"
    refine Zry (p:=H2.length) (Zb9 ((l::r).filter fun x => !Zdv ks x)) (by omega) (appL last) last ?_
    fail "g"
    refine⟨fun z=>?_,fun z=>?_⟩
    ·have hn:¬ ((l::r).all (Zdv ks)=true):=fun y=>by
      have:((l::r).filter fun x => !Zdv ks x)=[]:=Wek.mpr fun a ha=>by rw[Wab.mp y a ha]; simp
      rw[this] at z; cases z
     fail "g"
     refine⟨isl (appL (appL i5)),?_⟩
     fail "g"
     refine Zhf (appL (appL i5)) (by simp; omega) ?_
     fail "g"
     refine⟨pre++[l],r,fs++[l],_,_,_,by rw[i1]; simp,tl,?_,by simp; omega,by rw[Zjl (appL (appL i5))]; simp,?_,rfl⟩
     ·rw[<- i3]
      conv=>rhs; rw[Zbm,if_neg hn]
      simp
     ·exact((i6.trans (Fm.app _)).trans (Fm.app _)).new (Fm.set (S:=[H.length]) (by simp)) (fun q hq _=>by simp at hq; subst hq; exact Xd _)
    ·have hn:(l::r).all (Zdv ks)=true:=by
      rw[Wab]
      intro a ha
      cases y:Zdv ks a with
      | true=>rfl
      | false =>
       have:a∈(l::r).filter fun x => !Zdv ks x:=Wad.mpr ⟨ha,by rw[y]; rfl⟩
       cases w:(l::r).filter fun x => !Zdv ks x with
       | nil=>rw[w] at this; cases this
       | cons b bs=>rw[w] at z; cases z
     fail "g"
     refine⟨pre++[l],r,fs,_,_,_,by rw[i1]; simp,tl,?_,by simp; omega,appL (appL i5),(i6.trans (Fm.app _)).trans (Fm.app _),rfl⟩
     rw[<- i3]
     conv=>rhs; rw[Zbm,if_pos hn]
     rw[Zmr ks r fun x hx=>Wab.mp hn x (by simp[hx])]
 ·subst i7
  cases r with
  | cons l r=>cases i2
  | nil =>
   fail "g"
   have e:fs=Zbm ks ls:=by rw[<- i3]; exact(Waa fs).symm
   rw[e]
   exact q _ i6
variable {σ:SD} {H:HD} {Q:D->HD->Prop}
nonrec def Zmn (a b:List Int):Option (List Int):=if b.any (fun x=>decide (-x∈a))=true then none else some (Zdb (a++b.filter fun x=>decide (x∉a)))
theorem Zjx (a b:List Int) (n:Int) (h:n∈a /\ -n∈b):Zea a b n=Zmn (a.filter fun x=>decide (x≠n)) (b.filter fun x=>decide (x ≠ -n)):=by
 unfold Zea Zmn
 rw[if_neg (by simp[h.1,h.2])]
theorem Zmb {a:List Int} {n:Int} (hl:a.length<=1000) (q:∀ H',Fm [] H H'->Q (Zay (a.filter fun x=>decide (x≠n))) H'):wE (Zgh [Zay a,.int n] H) Q:=by
 refine Zbf rfl ?_
 show wS (Zfa [some (.tup (a.map .int)),some (.int n)] H) _
 unfold Zfa
 fail "g"
 refine Zeh (fun d=>match d with | .int x=>decide (x≠n) | _=>true) (fun H'=>H'=H) (fun _ j=>Zh3) _ (fun y hy H2 j=>?_) _ rfl fun H2 j=>?_
 ·obtain⟨z,hz,rfl⟩:=Xx.mp hy
  subst j
  fail "g"
  refine⟨?_,rfl⟩
  by_cases e:z=n<;>simp[e]
 ·subst j
  have ef:((a.map D.int).filter fun d=>match d with | .int x=>decide (x≠n) | _=>true)=(a.filter fun x=>decide (x≠n)).map .int:=by
   rw[Wcl]
   rfl
  rw[ef]
  refine⟨by have:=Waq (fun x=>decide (x≠n)) a; simp at this ⊢; omega,?_⟩
  fail "g"
  exact q _ (Fm.app _)
theorem Ybz {M:Nat} {a b:List Int} (ha:R M a) (hb:R M b) (hM:M<=8) (q:∀ H',Fm [] H H'->Q (Zw2 (Zmn a b)) H'):wE (Zud [Zay a,Zay b] H) Q:=by
 have la:=ha.len
 have lb:=hb.len
 refine Zbf rfl ?_
 show wS (Zl2 [some (.tup (a.map .int)),some (.tup (b.map .int)),none,none] H) _
 unfold Zl2
 fail "g"
 refine Zyn ?_
 fail "g"
 refine Zc6 (fun d t σ H'=>∃ (pre r:List Int) (z3:Option D),b=pre++r/\t=r.map .int/\pre.any (fun x=>decide (-x∈a))=false/\H'[H.length]? = some (.lst ((a++pre.filter fun x=>decide (x∉a)).map .int))/\Fm [] H H'/\σ=[some (.tup (a.map .int)),some (.tup (b.map .int)),some (.ref H.length),z3]) (fun _ _ _ _ _=>Zh3) (fun d x t σ H1 ⟨pre,r,z3,i1,i2,i3,i4,i5,i6⟩=>?_) (fun d σ H1 ⟨pre,r,z3,i1,i2,i3,i4,i5,i6⟩=>?_) _ [] _ _ ⟨[],b,_,rfl,rfl,rfl,by simp,Fm.app _,rfl⟩
 ·subst i6
  cases r with
  | nil=>cases i2
  | cons l r =>
   obtain⟨rfl,rfl⟩:=Wbu.inj i2
   fail "i"
   refine w_inZ ?_
   fail "g"
   refine⟨fun z=>?_,fun z=>?_⟩
   ·fail "g"
    have:Zw2 (Zmn a b)=.non:=by
     unfold Zmn
     rw[if_pos (by rw[i1]; simp at z; simp[z])]; rfl
    rw[<- this]
    exact q _ i5
   ·fail "i"
    refine Zn7 ?_
    fail "g"
    have an:(pre++[l]).any (fun x=>decide (-x∈a))=false:=by rw[List.any_append,i3]; simp at z ⊢; exact z
    have lp:pre.length<=8:=by rw[i1] at lb; simp at lb; omega
    refine⟨fun y=>?_,fun y=>?_⟩
    ·fail "g"
     refine⟨isl i4,?_⟩
     fail "g"
     refine Zhf i4 (by have:=Waq (fun x=>decide (x∉a)) pre; simp at this ⊢; omega) ?_
     fail "g"
     refine⟨pre++[l],r,_,by rw[i1]; simp,rfl,an,?_,i5.new (Fm.set (S:=[H.length]) (by simp)) (fun q hq _=>by simp at hq; subst hq; exact Xd _),rfl⟩
     rw[Zjl i4]
     have y:l∉a:=by simpa using y
     simp[Wch,y]
    ·fail "g"
     refine⟨pre++[l],r,_,by rw[i1]; simp,rfl,an,?_,i5,rfl⟩
     rw[i4]
     have y:l∈a:=by simpa using y
     simp[Wch,y]
 ·subst i6
  cases r with
  | cons l r=>cases i2
  | nil =>
   rw[Waa] at i1
   subst i1
   fail "g"
   have hj:=R.join0 ha hb i3
   refine Zzs i4 (by have:=hj.len; omega) hj.nd ?_
   fail "g"
   have:Zw2 (Zmn a b)=.tup ((Zdb (a++b.filter fun x=>decide (x∉a))).map .int):=by
    unfold Zmn
    rw[if_neg (by rw[i3]; simp)]; rfl
   rw[<- this]
   exact q _ (i5.trans (Fm.app _))
theorem Zpp {M:Nat} {a b:List Int} {n:Int} (ha:R M a) (hb:R M b) (hM:M<=8) (q:∀ H',Fm [] H H'->Q (Zw2 (Zea a b n)) H'):wE (Zhz [Zay a,Zay b,.int n] H) Q:=by
 have la:=ha.len
 have lb:=hb.len
 refine Zbf rfl ?_
 show wS (Zgo [some (.tup (a.map .int)),some (.tup (b.map .int)),some (.int n)] H) _
 unfold Zgo
 have no:(n∉a \/ -n∉b)->Q .non H:=fun h=>by
  have e:Zw2 (Zea a b n)=.non:=by unfold Zea; rw[if_pos h]; rfl
  rw[<- e]; exact q _ Fm.refl
 fail "i"
 refine Zn7 ?_
 fail "g"
 refine⟨fun z=>?_,fun z=>?_⟩
 ·fail "g"
  exact no (.inl (by simpa using z))
 ·fail "g"
  refine Zn7 ?_
  fail "g"
  refine⟨fun y=>?_,fun y=>?_⟩
  ·fail "g"
   exact no (.inr (by simpa using y))
  ·fail "g"
   have h:n∈a /\ -n∈b:=⟨by simpa using z,by simpa using y⟩
   refine Zmb (a:=a) (by omega) fun H1 x1=>?_
   fail "g"
   refine Zmb (a:=b) (by omega) fun H2 x2=>?_
   fail "g"
   refine Ybz (ha.sub Wax) (hb.sub Wax) hM fun H3 x3=>?_
   rw[<- Zjx a b n h]
   fail "g"
   exact q _ ((x1.trans x2).trans x3)
nonrec def Zgd (n:Int):List Int->List Int->Option (List Int)
 | zs,[]=>some zs
 | zs,x::r=>if Zas x=n then Zgd n zs r else if -x∈zs then none else Zgd n (if x∈zs then zs else zs++[x]) r
theorem Zxj {M:Nat} {a:List Int} {n:Int} (ha:R M a) (h1:1<=n) (hn:n∈a) (b:List Int):∀ (a2 a1:List Int),a=a1++a2->Zgd n (a1.filter fun x=>decide (x≠n)) (a2++b)=Zgd n (a.filter fun x=>decide (x≠n)) b
 | [],a1,e=>by rw[Waa] at e; subst e; rfl
 | x::a2,a1,e=>by
  have en:Zas n=n:=by unfold Zas; split<;>omega
  have hx:x∈a:=by rw[e]; simp
  have e':a=(a1++[x])++a2:=by rw[e]; simp
  have ih:=Zxj ha h1 hn b a2 (a1++[x]) e'
  rw[Wcc,Zgd]
  rw[Wch] at ih
  split
  ·rename_i z
   have:x=n:=ha.inj hx hn (by rw[z,en])
   simpa [this] using ih
  ·rename_i z
   have xn:x≠n:=fun y=>z (by rw[y]; exact en)
   have s1:∀ y,y∈a1.filter (fun x=>decide (x≠n))->y∈a:=fun y hy=>by rw[e]; exact Wba _ (Wad.mp hy).1
   rw[if_neg (fun y=>by
    have:=ha.inj (s1 _ y) hx (Zit x)
    have:=(ha.rg x hx).1
    unfold Zas at this
    split at this<;>omega)]
   rw[if_neg (fun y=>by
    have nd:=ha.nd
    rw[e,Wae,Wat] at nd
    exact nd.2.2 (Zas x) (Xx.mpr ⟨x,(Wad.mp y).1,rfl⟩) (Zas x) (by simp) rfl)]
   simpa [xn] using ih
theorem Zxd {M:Nat} {a b:List Int} {n:Int} (hb:R M b) (h1:1<=n) (hn : -n∈b):∀ (b2 b1:List Int),b=b1++b2 ->
  Zgd n (a++(b1.filter fun x=>decide (x ≠ -n)).filter fun x=>decide (x∉a)) b2=if (b2.filter fun x=>decide (x ≠ -n)).any (fun x=>decide (-x∈a))=true then none else some (a++(b.filter fun x=>decide (x ≠ -n)).filter fun x=>decide (x∉a))
 | [],b1,e=>by rw[Waa] at e; subst e; rfl
 | x::b2,b1,e=>by
  have en:Zas (-n)=n:=by unfold Zas; split<;>omega
  have hx:x∈b:=by rw[e]; simp
  have e':b=(b1++[x])++b2:=by rw[e]; simp
  have ih:=Zxd (a:=a) hb h1 hn b2 (b1++[x]) e'
  rw[Zgd]
  rw[Wch,Wch] at ih
  split
  ·rename_i z
   have:x = -n:=hb.inj hx hn (by rw[z,en])
   simpa [this] using ih
  ·rename_i z
   have xn:x ≠ -n:=fun y=>z (by rw[y]; exact en)
   have s1:∀ y,y∈(b1.filter fun x=>decide (x ≠ -n)).filter (fun x=>decide (x∉a))->y∈b1:=fun y hy=>(Wad.mp (Wad.mp hy).1).1
   have c1:(-x∈a++(b1.filter fun x=>decide (x ≠ -n)).filter fun x=>decide (x∉a)) ↔ -x∈a:=by
    rw[Xv]
    refine⟨fun y=>y.elim id fun y=>?_,.inl⟩
    have:=hb.inj (by rw[e]; exact Wba _ (s1 _ y)) hx (Zit x)
    have:=(hb.rg x hx).1
    unfold Zas at this
    split at this<;>omega
   have c2:(x∈a++(b1.filter fun x=>decide (x ≠ -n)).filter fun x=>decide (x∉a)) ↔ x∈a:=by
    rw[Xv]
    refine⟨fun y=>y.elim id fun y=>?_,.inl⟩
    have nd:=hb.nd
    rw[e,Wae,Wat] at nd
    exact absurd rfl (nd.2.2 (Zas x) (Xx.mpr ⟨x,s1 _ y,rfl⟩) (Zas x) (by simp))
   by_cases y : -x∈a
   ·rw[if_pos (c1.mpr y),if_pos (by simp[xn,y])]
   ·rw[if_neg (fun w=>y (c1.mp w))]
    by_cases w:x∈a
    ·rw[if_pos (c2.mpr w)]
     simpa [xn,y,w] using ih
    ·rw[if_neg (fun v=>w (c2.mp v))]
     simpa [xn,y,w] using ih
theorem Zte {M:Nat} {a b:List Int} {n:Int} (ha:R M a) (hb:R M b) (h1:1<=n) (hn:n∈a) (hm : -n∈b):(Zgd n [] (a++b)).map Zdb=Zea a b n:=by
 have e1:=Zxj ha h1 hn b a [] rfl
 have e2:=Zxd (a:=a.filter fun x=>decide (x≠n)) hb h1 hm b [] rfl
 rw[show ([]:List Int).filter (fun x=>decide (x≠n))=[] from rfl] at e1
 rw[e1]
 rw[show (([]:List Int).filter (fun x=>decide (x ≠ -n))).filter (fun x=>decide (x∉a.filter fun x=>decide (x≠n)))=[] from rfl,Waa] at e2
 rw[e2]
 rw[Zjx a b n ⟨hn,hm⟩]
 unfold Zmn
 split<;>rfl
theorem Zn4 {M:Nat} {n:Int}:∀ (xs zs:List Int),(∀ x∈xs,1<=Zas x/\Zas x<=M)->R M zs->∀ ys,Zgd n zs xs=some ys->R M ys
 | [],zs,_,hz,ys,e=>by cases e; exact hz
 | x::r,zs,hx,hz,ys,e=>by
  rw[Zgd] at e
  split at e
  ·exact Zn4 r zs (fun y hy=>hx y (by simp[hy])) hz ys e
  ·split at e
   ·cases e
   ·rename_i h1 h2
    refine Zn4 r _ (fun y hy=>hx y (by simp[hy])) ?_ ys e
    split
    ·exact hz
    ·rename_i h3
     refine⟨?_,fun y hy=>?_⟩
     ·rw[Wae,Wat]
      refine⟨hz.nd,by simp,fun u hu v hv e=>?_⟩
      obtain⟨y,hy,rfl⟩:=Xx.mp hu
      simp at hv
      subst hv
      rcases Zro e with z | z
      ·exact h3 (z ▸ hy)
      ·exact h2 (z ▸ hy)
     ·rcases Xv.mp hy with z | z
      ·exact hz.rg y z
      ·simp at z; subst z; exact hx y (by simp)
nonrec def kvT (x:Int):Int×D:=(x,.bl true)
theorem Zsf (k:Int):∀ zs:List Int,(Zhs (zs.map kvT) k).isSome=decide (k∈zs)
 | []=>rfl
 | z::r=>by
  have ih:=Zsf k r
  unfold Zhs at ih ⊢
  rw[Xq]
  by_cases e:z=k
  ·subst e
   rw[Wdc (by simp[kvT])]
   simp
  ·rw[Wce (by simp[kvT,e]),ih]
   have:¬ k=z:=fun w=>e w.symm
   simp[this]
theorem Yc9 (k:Int) (zs:List Int):Zkx (zs.map kvT) k (.bl true)=(if k∈zs then zs else zs++[k]).map kvT:=by
 unfold Zkx
 by_cases h:k∈zs
 ·rw[if_pos (by rw[List.any_map,Was]; exact⟨k,h,by simp[kvT]⟩),if_pos h,Wbt]
  refine Wdr fun x _=>?_
  show (if x=k then (x,D.bl true) else kvT x)=kvT x
  split<;>rfl
 ·have hn:¬ ((zs.map kvT).any (fun p=>decide (p.1=k))=true):=by
   rw[List.any_map,Was]
   rintro⟨x,hx,e⟩
   have e:x=k:=of_decide_eq_true e
   subst e
   exact h hx
  rw[if_neg hn,if_neg h,Wae]
  rfl
theorem w_iin {n:Nat} {kvs:List (Int×D)} {k:Int} (g:H[n]? = some (.dci kvs)) (q:Q (.bl (Zhs kvs k).isSome) H):wE (iinD (.int k) (.ref n) H) Q:=⟨_,_,by simp[iinD,Yau,g],q⟩
theorem Ztv {n:Nat} {kvs:List (Int×D)} {k:Int} {v:D} {Z:HD->Prop} (g:H[n]? = some (.dci kvs)) (h:kvs.length<=1000) (q:Z (H.set n (.dci (Zkx kvs k v)))):wH (Zq0 (.ref n) (.int k) v H) Z:=by
 refine⟨_,?_,q⟩
 have sz:=Ubf
 simp only[Zq0,g]
 exact if_pos (by omega)
theorem Ybf (q:Q (.ref H.length) (H++[.dci []])):wE (eDI σ H) Q:=⟨_,_,rfl,q⟩
theorem Zia {M:Nat} {a b:List Int} {n:Int} (ha:R M a) (hb:R M b) (hM:M<=8) (h1:1<=n) (q:∀ H',Fm [] H H'->Q (Zw2 (Zea a b n)) H'):wE (Zdy [Zay a,Zay b,.int n] H) Q:=by
 have la:=ha.len
 have lb:=hb.len
 refine Zbf rfl ?_
 show wS (Zc4 [some (.tup (a.map .int)),some (.tup (b.map .int)),some (.int n),none,none] H) _
 unfold Zc4
 have no:(n∉a \/ -n∉b)->Q .non H:=fun h=>by
  have e:Zw2 (Zea a b n)=.non:=by unfold Zea; rw[if_pos h]; rfl
  rw[<- e]; exact q _ Fm.refl
 fail "i"
 refine Zn7 ?_
 fail "g"
 refine⟨fun z=>?_,fun z=>?_⟩
 ·fail "g"
  exact no (.inl (by simpa using z))
 fail "g"
 refine Zn7 ?_
 fail "g"
 refine⟨fun y=>?_,fun y=>?_⟩
 ·fail "g"
  exact no (.inr (by simpa using y))
 fail "g"
 refine Ybf ?_
 have hn:n∈a:=by simpa using z
 have hm : -n∈b:=by simpa using y
 have fj:=Zte ha hb h1 hn hm
 fail "g"
 rw[<- Wae]
 refine Zc6 (fun d t σ H'=>∃ (pre r zs:List Int) (z4:Option D),a++b=pre++r/\t=r.map .int/\Zgd n zs r=Zgd n [] (a++b)/\R M zs/\H'[H.length]? = some (.dci (zs.map kvT))/\Fm [] H H'/\σ=[some (.tup (a.map .int)),some (.tup (b.map .int)),some (.int n),some (.ref H.length),z4]) (fun _ _ _ _ _=>Zh3) (fun d x t σ H1 ⟨pre,r,zs,z4,i1,i2,i3,i4,i5,i6,i7⟩=>?_) (fun d σ H1 ⟨pre,r,zs,z4,i1,i2,i3,i4,i5,i6,i7⟩=>?_) _ [] _ _ ⟨[],a++b,[],_,rfl,rfl,rfl,⟨.nil,by simp⟩,last,Fm.app _,rfl⟩
 ·subst i7
  cases r with
  | nil=>cases i2
  | cons l r =>
   obtain⟨rfl,rfl⟩:=Wbu.inj i2
   have hl:1<=Zas l/\Zas l<=M:=by
    have:l∈a++b:=by rw[i1]; simp
    rcases Xv.mp this with w | w
    ·exact ha.rg l w
    ·exact hb.rg l w
   have i1':a++b=(pre++[l])++r:=by rw[i1]; simp
   rw[Zgd] at i3
   fail "i"
   fail "g"
   refine⟨fun w=>?_,fun w=>?_⟩
   ·have w:Zas l≠n:=by simpa using w
    rw[if_neg w] at i3
    fail "i"
    refine w_iin i5 ?_
    rw[Zsf]
    fail "g"
    refine⟨fun v=>?_,fun v=>?_⟩
    ·fail "g"
     rw[if_pos (of_decide_eq_true v)] at i3
     rw[<- i3] at fj
     have e:Zw2 (Zea a b n)=.non:=by rw[<- fj]; rfl
     rw[<- e]; exact q _ i6
    ·fail "g"
     rw[if_neg (of_decide_eq_false v)] at i3
     refine Ztv i5 (by have:=i4.len; simp; omega) ?_
     rw[Yc9]
     fail "g"
     refine⟨pre++[l],r,_,_,i1',rfl,i3,?_,Zjl i5,i6.new (Fm.set (S:=[H.length]) (by simp)) (fun q hq _=>by simp at hq; subst hq; exact Xd _),rfl⟩
     have:=Zn4 (M:=M) (n:=n) [l] zs (by simpa using hl) i4 (if l∈zs then zs else zs++[l]) (by rw[Zgd,if_neg w,if_neg (of_decide_eq_false v)]; rfl)
     exact this
   ·have w:Zas l=n:=by simpa using w
    rw[if_pos w] at i3
    fail "g"
    exact⟨pre++[l],r,zs,_,i1',rfl,i3,i4,i5,i6,rfl⟩
 ·subst i7
  cases r with
  | cons l r=>cases i2
  | nil =>
   rw[<- i3] at fj
   have e:Zw2 (Zea a b n)=.tup ((Zdb zs).map .int):=by rw[<- fj]; rfl
   fail "g"
   refine Zwu i5 (by have:=i4.len; omega) i4.nd ?_
   fail "g"
   rw[<- e]
   exact q _ (i6.trans (Fm.app _))
nonrec def nms (ks:List D):List Int:=((Wcp ks.length).map fun k:Nat=>(k:Int)+1).filter fun n => !Zdv ks n
theorem Zt5 {ks:List D} {n:Int}:n∈nms ks ↔ 1<=n/\n<=ks.length/\Zdv ks n=false:=by
 unfold nms
 rw[Wad,Xx]
 constructor
 ·rintro⟨⟨k,hk,rfl⟩,h⟩
  rw[Wbi] at hk
  exact⟨by omega,by omega,by simpa using h⟩
 ·rintro⟨h1,h2,h3⟩
  exact⟨⟨(n - 1).toNat,by rw[Wbi]; omega,by omega⟩,by rw[h3]; rfl⟩
theorem Zt2 {ks:List D} {rss:List (List Int)} {P:List D->HD->Prop} (hk:∀ d∈ks,Zb6 d) (h8:ks.length<=8) (q:P ((nms ks).map .int) H) :
  ∃ j:Int,[D.int ks.length]=[D.int j]/\Zmt j/\wA (Zee [] (Zuo [0,1] (some (Zao ks rss)::some (.str "all")::σ)) (tOf (eOp neD (eOp ixD (eOp ixD (Zac 1) (eC (.int 0))) (Zac 0)) (Zac 2))) (eOp Zb0 (Zac 0) (eC (.int 1))) (Zba 0 j.toNat) H) P:=by
 refine⟨_,rfl,⟨by omega,by omega⟩,?_⟩ -- w_names2
 rw[Wag]
 have ab:∀ k:Nat,Zas ((k:Int)+1)=(k:Int)+1:=fun k=>by unfold Zas; split<;>omega
 refine Yal (fun d=>match d with | .int k => !Zdv ks (k+1) | _=>false) (fun d=>match d with | .int k=>.int (k+1) | d=>d) (fun H'=>H'=H) (fun _ j=>Zh3) _ (fun y hy H2 j=>?_) (fun y hy _ H2 j=>?_) _ rfl fun H2 j=>?_
 ·simp only[Zba,Xx,Wbi] at hy
  obtain⟨k,hk',rfl⟩:=hy
  rw[Int.zero_add]
  subst j
  show wT (tOf _ (some (.int (k:Int))::[some (Zao ks rss),some (.str "all")]) H2) _
  fail "g"
  have e:=Zki (x:=(k:Int)+1) hk (by rw[ab]; omega)
  rw[ab,show (k:Int)+1 - 1=k by omega] at e
  refine w_ixT e ?_
  fail "g"
  refine Zlk ?_
  exact⟨_,rfl,rfl,rfl⟩
 ·simp only[Zba,Xx,Wbi] at hy
  obtain⟨k,hk',rfl⟩:=hy
  subst j
  show wE (eOp Zb0 (Zac 0) (eC (.int 1)) (some (.int (0+(k:Int)))::[some (Zao ks rss),some (.str "all")]) H2) _
  fail "g"
  exact⟨rfl,rfl⟩
 ·subst j
  have ef:((Zba 0 ks.length).filter fun d=>match d with | .int k => !Zdv ks (k+1) | _=>false).map (fun d=>match d with | .int k=>.int (k+1) | d=>d)=(nms ks).map D.int:=by
   unfold Zba nms
   rw[Wcl,Wbt,Wcl,Wbt]
   simp only[Function.comp_def,Int.zero_add]
  rw[ef]
  exact q
variable {σ:SD} {H:HD} {Q:D->HD->Prop}
inductive St (ks:List D) (rss made:List (List Int)):D->List Int->Prop
 | less (i:Nat) (h:i<made.length):St ks rss made (.tup [.str "less",.int i]) (Zbm ks made[i])
 | row (i:Nat) (h:i<rss.length):St ks rss made (.tup [.str "row",.int i]) rss[i]
 | joined (i j:Nat) (n:Int) (x:List Int) (hi:i<made.length) (hj:j<made.length) (hn:1<=n/\n<=ks.length) (ho:Zdv ks n=false) (e:Zea made[i] made[j] n=some x):St ks rss made (.tup [.str "joined",.int i,.int j,.int n]) x
theorem getI {l:List (List Int)} {i:Int} (h:0<=i/\i<l.length):∃ j:Nat,∃ hj:j<l.length,i=j/\l.getD i.toNat []=l[j]:=by
 refine⟨i.toNat,by omega,by omega,?_⟩
 rw[War,Xn (by omega)]
 rfl
theorem St.of {ks:List D} {rss made:List (List Int)} {d:D} {x:List Int} (h:stp ks rss made d=some x):St ks rss made d x:=by
 unfold stp at h
 split at h
 ·split at h
  ·split at h
   ·rename_i hs hi
    obtain⟨j,hj,rfl,e⟩:=getI hi
    rw[e] at h
    cases h
    subst hs
    exact .less j hj
   ·cases h
  ·split at h
   ·split at h
    ·rename_i hs hi
     obtain⟨j,hj,rfl,e⟩:=getI hi
     rw[e] at h
     cases h
     subst hs
     exact .row j hj
    ·cases h
   ·cases h
 ·split at h
  ·rename_i hc
   obtain⟨rfl,h1,h2,h3,h4⟩:=hc
   obtain⟨i,hi,rfl,e1⟩:=getI h1
   obtain⟨j,hj,rfl,e2⟩:=getI h2
   rw[e1,e2] at h
   exact .joined i j _ x hi hj h3 h4 h
  ·cases h
 ·cases h
theorem Zfb {made:List (List Int)} {i:Nat} (h:i<made.length):atI (made.map Zay) (i:Int)=some (Zay made[i]):=Zbx (by simp[h])
theorem Zpk {i:Int} (q:Q (.bl true) H):wE (Zfn [.int i] H) Q:=by
 refine Zbf rfl ?_
 show wS (Zej [some (.int i)] H) _
 unfold Zej
 fail "g"
 exact q
theorem Zla {i m:Nat} (h:i<m) (q:Q (.bl true) H):wE (Zbw [.int i,.int m] H) Q:=by
 refine Zbf rfl ?_
 show wS (Zcc [some (.int i),some (.int m)] H) _
 unfold Zcc
 fail "g"
 refine Zpk ?_
 fail "g"
 rw[decide_eq_true (by omega)]
 exact q
theorem Zhy {i m:Nat} (h:i<m) (q:Q (.bl true) H):wE (Zcd [.int i,.int m] H) Q:=by
 refine Zbf rfl ?_
 show wS (Zdt [some (.int i),some (.int m)] H) _
 unfold Zdt
 fail "g"
 rw[decide_eq_true (by omega)]
 exact q
theorem Zn9 {n:Int} {ks:List D} (hk:∀ d∈ks,Zb6 d) (hn:1<=n/\n<=ks.length) (ho:Zdv ks n=false) (q:Q (.bl true) H):wE (Zcp [.tup ks,.str "all",.int n] H) Q:=by
 have ea:Zas n=n:=by unfold Zas; split<;>omega
 refine Zbf rfl ?_
 show wS (Zbk [some (.tup ks),some (.str "all"),some (.int n)] H) _
 unfold Zbk
 fail "g"
 refine Zpk ?_
 fail "g"
 refine⟨fun z=>?_,fun z=>absurd hn.1 (by simpa using z)⟩
 fail "g"
 refine⟨fun y=>?_,fun y=>absurd hn.2 (by simpa using y)⟩
 fail "g"
 rw[<- ea]
 refine w_ixT (Zki hk (by omega)) ?_
 fail "g"
 refine Zlk ?_
 rw[ho]
 fail "g"
 exact q
theorem Zvr {pm:Nat} {ks:List D} {rss made:List (List Int)} {d:D} {x:List Int} (hk:∀ d∈ks,Zb6 d) (h8:ks.length<=8) (hm:∀ ls∈made,R ks.length ls) (g:H[pm]? = some (.lst (made.map Zay))) (h:St ks rss made d x)
  (q:∀ H',Fm [] H H'->Q (Zay x) H'):wE (Zgl [Zao ks rss,.str "all",.ty "claims_row",.ref pm,d] H) Q:=by
 refine Zbf rfl ?_
 show wS (Zff [some (Zao ks rss),some (.str "all"),some (.ty "claims_row"),some (.ref pm),some d] H) _
 unfold Zff
 cases h with
 | less i hi =>
  fail "i"
  (refine WP.w_if ?_; fail "g")
  fail "g"
  refine Zbf rfl ?_
  show wS (Zcb [some (.tup ks),some (.str "all"),some (.ref pm),some (.tup [.str "less",.int i])] H) _
  unfold Zcb
  fail "i"
  fail "g"
  rw[Xk]
  refine Zla hi ?_
  fail "g"
  refine w_ixR g (Zfb hi) ?_
  fail "g"
  refine Zj0 hk h8 (hm _ (Wac hi)) ?_
  fail "g"
  exact q H Fm.refl
 | row i hi =>
  fail "i"
  (refine WP.w_if ?_; fail "g")
  fail "i"
  fail "g"
  refine Zzc rfl ?_
  fail "g"
  refine Zbf rfl ?_
  show wS (Zc7 [some (Zao ks rss),some (.tup [.str "row",.int i])] H) _
  unfold Zc7
  fail "i"
  fail "g"
  rw[Xk]
  refine Zla hi ?_
  fail "g"
  refine w_ixT (Zfb hi) ?_
  fail "g"
  exact q H Fm.refl
 | joined i j n x hi hj hn ho e =>
  fail "i"
  (refine WP.w_if ?_; fail "g")
  fail "i"
  fail "g"
  refine Zbf rfl ?_
  show wS (Zbs [some (.tup ks),some (.str "all"),some (.ref pm),some (.tup [.str "joined",.int i,.int j,.int n])] H) _
  unfold Zbs
  fail "i"
  fail "g"
  rw[Xk]
  refine Zla hi ?_
  fail "g"
  rw[Xk]
  refine Zla hj ?_
  fail "i"
  refine Zn9 hk hn ho ?_
  fail "g"
  refine w_ixR g (Zfb hi) ?_
  fail "g"
  refine w_ixR g (Zfb hj) ?_
  fail "g"
  refine Zpp (hm _ (Wac hi)) (hm _ (Wac hj)) h8 fun H1 x1=>?_
  fail "g"
  rw[e]
  exact q _ x1
theorem w_inF {p:Nat} {bs:List Bool} (g:H[p]? = some (.lst (bs.map .bl))) (q:Q (.bl (!bs.all id)) H):wE (inD (.bl false) (.ref p) H) Q:=by
 have f:Fines (bs.map D.bl) (bs.map PyData.bool) 0:=by
  clear g q
  induction bs with
  | nil=>exact .nil
  | cons b r ih=>exact .cons (.bl b) ih
 refine w_inL (.bl false) f (by omega) (by omega) g ?_
 have:=Zx9 bs
 rw[<- this,Wfp] at q
 exact q
theorem Ydw {x:Int} {p:Nat} {ls:List Int} (g:H[p]? = some (.lst (ls.map .int))) (q:Q (.bl (!decide (x∈ls))) H):wE (niD (.int x) (.ref p) H) Q:=w_niL (.int x) (Zb9 ls) (by omega) (by omega) g (by rw[Zof]; exact q)
theorem Zrs (ks:List D):(nms ks).length<=ks.length:=by
 have:=Waq (fun n => !Zdv ks n) ((Wcp ks.length).map fun k:Nat=>(k:Int)+1)
 unfold nms
 simpa using this
theorem Zu2 {pm:Nat} {ks:List D} {rss made:List (List Int)} {d:D} {x:List Int} (hk:∀ d∈ks,Zb6 d) (h8:ks.length<=8) (hm:∀ ls∈made,R ks.length ls) (g:H[pm]? = some (.lst (made.map Zay))) (h:St ks rss made d x)
  (q:∀ H',Fm [] H H'->Q (Zay x) H'):wE (Zg1 [Zao ks rss,.str "all",.ref pm,d] H) Q:=by
 refine Zbf rfl ?_
 show wS (Zek [some (Zao ks rss),some (.str "all"),some (.ref pm),some d,none] H) _
 unfold Zek
 cases h with
 | less i hi =>
  fail "i"
  (refine WP.w_if ?_; fail "g")
  fail "g"
  rw[Xk]
  refine Zhy hi ?_
  fail "g"
  refine w_ixR g (Zfb hi) ?_
  fail "g"
  refine Zta hk h8 (hm _ (Wac hi)) fun H1 x1=>?_
  fail "g"
  exact q _ x1
 | row i hi =>
  fail "i"
  (refine WP.w_if ?_; fail "g")
  fail "i"
  fail "i"
  fail "g"
  refine Zbf rfl ?_
  show wS (Zdp [some (Zao ks rss),some (.str "all"),some (.int i),none,none,none] _) _
  unfold Zdp
  fail "i"
  (refine WP.w_if ?_; fail "g")
  fail "g"
  rw[Xk]
  refine Zhy hi ?_
  fail "g"
  refine w_ixT (Zfb hi) ?_
  fail "g"
  exact q _ (Fm.app _)
 | joined i j n x hi hj hn ho e =>
  fail "i"
  (refine WP.w_if ?_; fail "g")
  fail "i"
  refine Zt2 hk h8 ⟨by have:=Zrs ks; simp; omega,?_⟩
  have X1:Fm [] H (H++[DO.lst ((nms ks).map .int)]):=Fm.app _
  fail "i"
  refine wE_of (d:=.tup [.int i,.int j]) (by with_unfolding_all rfl) ?_
  fail "g"
  refine Zu7 (fun d=>.bl true) (fun H'=>H'=H++[DO.lst ((nms ks).map .int)]) (fun _ _=>Zh3) _ (fun y hy H2 jj=>?_) _ rfl fun H2 jj=>?_
  ·subst jj
   obtain⟨m,rfl,hm2⟩:∃ m:Nat,y=.int m/\m<made.length:=by
    rcases Xh.mp hy with rfl | hy
    ·exact⟨_,rfl,hi⟩
    ·rw[Wcw.mp hy]; exact⟨_,rfl,hj⟩
   show wE (Zal 2 Zcd (Zab (Zac 0) (Zab (eCB Zct (Zab (Zac 1) Zaf)) Zaf)) (some (.int m)::[some (.ref pm)]) _) _
   fail "g"
   rw[Xk]
   refine Zhy hm2 ?_
   exact⟨rfl,rfl⟩
  subst jj
  refine⟨by simp,?_⟩
  refine w_inF (bs:=[true,true]) last ?_
  have X2:=X1.trans (Fm.app (S:=[]) [DO.lst [D.bl true,D.bl true]])
  fail "i"
  obtain⟨m,rfl⟩:∃ m:Nat,n=m:=⟨n.toNat,by omega⟩
  refine Zhy (m:=ks.length+1) (by omega) ?_
  fail "g"
  refine Ydw (appL last) ?_
  rw[decide_eq_true (Zt5.mpr ⟨hn.1,hn.2,ho⟩)]
  fail "g"
  refine w_ixR (appL (appL g)) (Zfb hi) ?_
  fail "g"
  refine w_ixR (appL (appL g)) (Zfb hj) ?_
  fail "g"
  refine Zia (hm _ (Wac hi)) (hm _ (Wac hj)) h8 hn.1 fun H1 x1=>?_
  fail "g"
  rw[e]
  exact q _ (X2.trans x1)
variable {σ:SD} {H:HD} {Q:D->HD->Prop}
structure CR (ks:List D) (rss:List (List Int)):Prop where
 hk:∀ d∈ks,Zb6 d
 h8:ks.length<=8
 hr:∀ ls∈rss,R ks.length ls
 hl:rss.length<=1000
theorem Zy2 {f:AF} {I:List D->Zgc->HD->Prop} (h:wA (f σ H) fun ds H1=>∃ n xs,ds=[.ref n]/\H1[n]? = some (.lst xs)/\I (Zcs 0 xs) [(n,.lst xs)] H1):wI (Zpt f σ H) I:=by
 obtain⟨ds,H1,e,n,xs,rfl,g,q⟩:=h
 exact⟨_,_,_,by unfold Zpt; rw[e]; simp only[Zb]; rw[g],q⟩
nonrec abbrev amB:SF:=(Zag (Zbg 7 (Zal 5 Zgl (Zab (Zac 0) (Zab (Zac 1) (Zab (Zac 2) (Zab (Zac 4) (Zab (Zac 6) Zaf)))))))
 (Zag (sIf (tOf (eOp isD (Zac 7) (eC .non))) (Zag Yad Zak) Zak) (Zag (Zcj (eLM Zb1 (Zac 4) (Zab (Zac 7) Zaf))) Zak)))
nonrec abbrev amG:GF:=gTp 2 (gCn (gNm 5) (gCn (gNm 6) gNl))
section
variable {k w pm:Nat} {ks:List D} {rss made:List (List Int)} {d sd:D} {x:List Int} {n:Int} {z5 z6 z7:Option D}
theorem Ybl {K:SD->HD->Prop} {Z:FD->SD->HD->Prop} (c:CR ks rss) (hm:∀ ls∈made,R ks.length ls) (hl:made.length<=1000) (g:H[pm]? = some (.lst (made.map Zay))) (e:stp ks rss made d=some x)
  (q:∀ H2,Fm [pm] H H2->H2[pm]? = some (.lst ((made++[x]).map Zay))->K [some (Zao ks rss),some (.str "all"),some (.ty "claims_row"),some sd,some (.ref pm),some (.int n),some d,some (Zay x)] H2) :
  wG (amG (.tup [.int n,d]) [some (Zao ks rss),some (.str "all"),some (.ty "claims_row"),some sd,some (.ref pm),z5,z6,z7] H) fun σ1 H1=>wS (amB σ1 H1) (again K Z):=by
 fail "g"
 refine Zvr c.hk c.h8 hm g (.of e) fun H1 x1=>?_
 show wS _ _
 fail "i"
 refine⟨isl (x1.lst (by simp) g),?_⟩
 fail "g"
 refine Zhf (x1.lst (by simp) g) (by simp; omega) ?_
 fail "g"
 refine q _ ((x1.sub (by simp)).trans (Fm.set (by simp))) ?_
 rw[Zjl (x1.lst (by simp) g)]
 simp
end
section
variable {k ps:Nat} {ks:List D} {rss:List (List Int)} {ds:List D}
theorem Zlw (c:Nat) (d:D) (r:List D):Zcs (c:Int) (d::r)=.tup [.int c,d]::Zcs ((c+1:Nat):Int) r:=by
 rw[Zcs]
 simp
theorem Zlf {made:List (List Int)} {pre:List D} {d:D} {x:List Int} (ok:mok ks rss made pre=true) (e:stp ks rss (mad ks rss made pre) d=some x):mok ks rss made (pre++[d])=true/\mad ks rss made (pre++[d])=mad ks rss made pre++[x]:=by
 rw[Zi3,ok,Zkm _ _ _ _ _ ok]
 simp only[mok,mad,e,Bool.true_and,and_self]
theorem Ztg (c:CR ks rss) (g:H[ps]? = some (.lst ds)) (hl:ds.length<=1000) (ok:mok ks rss [] ds=true)
  (q:∀ p H',H'[p]? = some (.lst ((mad ks rss [] ds).map Zay))->H.length<=p->Fm [] H H'->Q (.ref p) H'):wE (Zg9 [Zao ks rss,.str "all",.ty "claims_row",.ref ps] H) Q:=by
 refine Zbf rfl ?_
 show wS (Zd8 [some (Zao ks rss),some (.str "all"),some (.ty "claims_row"),some (.ref ps),none,none,none,none] H) _
 unfold Zd8
 fail "g"
 refine Zy2 ?_
 fail "g"
 refine⟨_,_,rfl,appL g,?_⟩
 have np:H.length≠ps:=by have:=(Xc.mp g).1; omega
 refine Zc6 (g:=amG) (b:=amB) (fun d t σ H'=>∃ (pre r:List D) (z5 z6 z7:Option D),ds=pre++r/\t=Zcs (pre.length:Int) r/\mok ks rss [] pre=true/\H'[H.length]? = some (.lst ((mad ks rss [] pre).map Zay))/\Fm [] H H'/\σ=[some (Zao ks rss),some (.str "all"),some (.ty "claims_row"),some (.ref ps),some (.ref H.length),z5,z6,z7]) (fun d t σ H' ⟨pre,r,z5,z6,z7,i1,i2,i3,i4,i5,i6⟩=>Zok (i5.lst (by simp) g)) (fun d x tt σ H1 ⟨pre,r,z5,z6,z7,i1,i2,i3,i4,i5,i6⟩=>?_) (fun d σ H1 ⟨pre,r,z5,z6,z7,i1,i2,i3,i4,i5,i6⟩=>?_) _ [] _ _ ⟨[],ds,_,_,_,rfl,rfl,rfl,last,Fm.app _,rfl⟩
 ·subst i6
  cases r with
  | nil=>cases i2
  | cons d0 r =>
   rw[Zlw] at i2
   obtain⟨rfl,rfl⟩:=Wbu.inj i2
   have o2:=ok
   rw[i1,Zi3,i3,Bool.true_and] at o2
   cases e:stp ks rss (mad ks rss [] pre) d0 with
   | none=>simp only[mok,e] at o2; cases o2
   | some x =>
    obtain⟨s1,s2⟩:=Zlf i3 e
    have lm:=Zgg ks rss pre [] i3
    have ld:pre.length<ds.length:=by rw[i1]; simp
    refine Ybl c (Zvp c.hr pre [] (by simp)) (by simp at lm; omega) i4 e fun H2 x2 g2=>?_
    exact⟨pre++[d0],r,_,_,_,by rw[i1]; simp,by simp,s1,by rw[s2]; exact g2,i5.new x2 (fun q hq _=>by simp at hq; subst hq; exact Xd _),rfl⟩
 ·subst i6
  cases r with
  | cons d0 r=>rw[Zlw] at i2; cases i2
  | nil =>
   rw[Waa] at i1
   subst i1
   fail "g"
   exact q _ _ i4 (Xd _) i5
end
theorem Zoo {p r:Nat} {xs ys:List D} (g1:H[p]? = some (.lst xs)) (g2:H[r]? = some (.lst ys)) (h:xs.length+ys.length<=1000000) (q:Q (.ref H.length) (H++[.lst (xs++ys)])):wE (Zb0 (.ref p) (.ref r) H) Q:=by
 refine⟨_,_,?_,q⟩
 simp only[Zb0,g1,g2]
 exact if_pos (Zfg (by rw[Xl]; exact h))
section
variable {k ps:Nat} {ks:List D} {rss:List (List Int)} {ds:List D}
theorem Zo3 (c:CR ks rss) (g:H[ps]? = some (.lst ds)) (hl:ds.length<=1000) (ok:mok ks rss [] ds=true)
  (q:∀ p H',H'[p]? = some (.lst ((mad ks rss [] ds).map Zay))->H.length<=p->Fm [] H H'->Q (.ref p) H'):wE (Zgv [Zao ks rss,.ref ps] H) Q:=by
 refine Zbf rfl ?_
 show wS (Ze6 [some (Zao ks rss),some (.ref ps)] H) _
 unfold Ze6
 fail "g"
 refine Ztg c g hl ok fun p H' g' l x=>?_
 fail "g"
 exact q p H' g' l x
end
theorem Zjt (rss:List (List Int)):∃ xs,Fines (rss.map Zay) xs 1:=Fines.of _ fun d hd=>by
 obtain⟨ls,_,rfl⟩:=Xx.mp hd
 exact⟨_,Fine.tup (Zb9 ls)⟩
variable {σ:SD} {H:HD} {Q:D->HD->Prop}
theorem w_eqB {a b:Bool} (q:Q (.bl (a==b)) H):wE (eqD (.bl a) (.bl b) H) Q:=Ycd (.bl a) (.bl b) (by omega) (by omega) (by simpa [Ub] using q)
variable {σ:SD} {H:HD} {Q:D->HD->Prop}
nonrec def two (bs:List Bool):List (List Bool):=[bs++[false],bs++[true]]
nonrec def lev:Nat->List (List Bool)
 | 0=>[[]]
 | k+1=>(lev k).flatMap two
theorem Zeq:∀ (k:Nat),∀ bs∈lev k,bs.length=k
 | 0,bs,h=>by simp[lev] at h; subst h; rfl
 | k+1,bs,h=>by
  obtain⟨x,hx,h⟩:=Wdi.mp h
  have:=Zeq k x hx
  simp only[two,Xh,Wbs,or_false] at h
  rcases h with rfl | rfl<;>simp[this]
theorem Zse (xs:List (List Bool)):(xs.flatMap two).length=2*xs.length:=by
 induction xs with
 | nil=>rfl
 | cons x r ih=>rw[Wfm,Xl,ih]; simp[two]; omega
theorem Zoz:∀ k:Nat,(lev k).length=2 ^ k
 | 0=>rfl
 | k+1=>by
  show ((lev k).flatMap two).length=_
  rw[Zse,Zoz k,Wet]; omega
theorem Zg4 {k:Nat} (h:k<=8):(lev k).length<=256:=by
 rw[Zoz]
 exact Waf (Wbv (by omega) h) (by decide)
theorem Zv6 {k:Nat} {bs:List Bool} (t:Bool) (h:bs∈lev k):bs++[t]∈lev (k+1):=by
 refine Wdi.mpr ⟨bs,h,?_⟩
 cases t<;>simp[two]
theorem Ziy:∀ k:Nat,(lev k).Nodup
 | 0=>by simp[lev]
 | k+1=>by
  have:∀ xs:List (List Bool),xs.Nodup->(xs.flatMap two).Nodup:=fun xs=>by
   induction xs with
   | nil=>intro _; simp
   | cons x r ih =>
    intro h
    obtain⟨h1,h2⟩:=Wbk.mp h
    rw[Wfm]
    refine Wat.mpr ⟨by simp[two],ih h2,?_⟩
    intro a ha b hb e
    subst e
    obtain⟨y,hy,hb⟩:=Wdi.mp hb
    simp only[two,Xh,Wbs,or_false] at ha hb
    have:x=y:=by
     rcases ha with ha | ha<;>rcases hb with hb | hb<;>rw[ha] at hb<;>exact(List.append_inj' hb rfl).1
    exact h1 (this ▸ hy)
  exact this _ (Ziy k)
theorem Ycf {p q:Nat} {xs ys:List D} (h1:H[p]? = some (.lst xs)) (h2:H[q]? = some (.lst ys)) (hl:xs.length+ys.length<=100000) (k:Q (.ref H.length) (H++[.lst (xs++ys)])):wE (Zb0 (.ref p) (.ref q) H) Q:=by
 have z:(xs++ys).length<=sizeLine:=Zfg (by simp; omega)
 exact⟨_,_,by simp only[Zb0,h1,h2]; exact if_pos z,k⟩
theorem Zw5 {k q:Nat} {a0 a2 z4:Option D} {R:FD->SD->HD->Prop} {H:HD} (hk:k<=8) (g:H[q]? = some (.lst ((lev k).map Zaz)))
  (h:∀ m z H',H'[m]? = some (.lst ((lev (k+1)).map Zaz))->ExtS [] H H'->R .nx [a0,some (.ref q),a2,some (.ref m),z] H') :
  wS (Zfr [(q,.lst ((lev k).map Zaz))] (gNm 4) (Zag (Zbg 3 (eOp Zb0 (Zac 3) (Zd3 (Zab (eOp Zb0 (Zac 4) (Zdi (Zab (eC (.bl false)) Zaf))) (Zab (eOp Zb0 (Zac 4) (Zdi (Zab (eC (.bl true)) Zaf))) Zaf))))) Zak) ((lev k).map Zaz) [a0,some (.ref q),a2,some (.ref H.length),z4] (H++[.lst []])) R:=by
 have l256:=Zg4 hk
 refine Zc6 (fun d t σ H'=>∃ (dn td:List (List Bool)) (m:Nat) (z:Option D),d=dn.map Zaz/\t=td.map Zaz/\lev k=dn++td/\H'[m]? = some (.lst ((dn.flatMap two).map Zaz))/\H'[q]? = some (.lst ((lev k).map Zaz))/\ExtS [] H H'/\σ=[a0,some (.ref q),a2,some (.ref m),z]) (fun d t σ H' ⟨dn,td,m,z,i1,i2,i3,i4,i5,i6,i7⟩=>Zok i5) (fun d x t σ H' ⟨dn,td,m,z,i1,i2,i3,i4,i5,i6,i7⟩=>?_) (fun d σ H' ⟨dn,td,m,z,i1,i2,i3,i4,i5,i6,i7⟩=>?_) _ [] _ _ ⟨[],lev k,H.length,z4,rfl,rfl,rfl,last,appL g,ExtS.app _,rfl⟩
 ·subst i7 i1
  obtain⟨b,tr,rfl,rfl,rfl⟩:∃ b tr,td=b::tr/\x=Zaz b/\t=tr.map Zaz:=by
   cases td with
   | nil=>cases i2
   | cons b tr=>obtain⟨e1,e2⟩:=Wbu.inj i2; exact⟨b,tr,rfl,e1,e2⟩
  have lb:b.length=k:=Zeq k b (by rw[i3]; simp)
  have ln:dn.length<=256:=by have:=congrArg Wbo i3; simp at this; omega
  fail "g"
  refine Ycf (appL i4) last (by rw[Xk,Zse]; simp; omega) ?_
  fail "g"
  refine⟨dn++[b],tr,_,_,by simp,rfl,by rw[i3]; simp,?_,appL (appL i5),(i6.trans (ExtS.app _)).trans (ExtS.app _),rfl⟩
  rw[last]
  simp[two]
 ·subst i7
  cases td with
  | cons b tr=>cases i2
  | nil =>
   rw[Waa] at i3
   subst i3
   exact h m z H' i4 i6
theorem Zjj {n:Nat} (hn:n<=8) (q:∀ p H',H'[p]? = some (.lst ((lev n).map Zaz))->ExtS [] H H'->Q (.ref p) H'):wE (Zcy [.int n] H) Q:=by
 refine Zbf rfl ?_
 show wS (Zdq [some (.int n),none,none,none,none] H) _
 unfold Zdq
 fail "g"
 refine⟨_,rfl,⟨by omega,by omega⟩,?_⟩
 rw[Wag]
 refine Zc6 (fun d t σ H'=>∃ (m:Nat) (z2 z3 z4:Option D),d.length+t.length=n/\H'[m]? = some (.lst ((lev d.length).map Zaz))/\ExtS [] H H'/\σ=[some (.int n),some (.ref m),z2,z3,z4]) (fun _ _ _ _ _=>Zh3) (fun d x t σ H' ⟨m,z2,z3,z4,i1,i2,i3,i4⟩=>?_) (fun d σ H' ⟨m,z2,z3,z4,i1,i2,i3,i4⟩=>?_) _ [] _ _ ⟨H.length,none,none,none,by simp[Zba],last,ExtS.app _,rfl⟩
 ·subst i4
  fail "g"
  refine Zw5 (k:=d.length) (by simp at i1; omega) i2 fun m' z H2 g2 x2=>?_
  fail "g"
  refine⟨m',_,_,_,by simp at i1 ⊢; omega,by rw[g2]; simp,i3.trans x2,rfl⟩
 ·subst i4
  simp only[Wav,Wfo] at i1
  subst i1
  fail "g"
  exact q m H' i2 i3
nonrec def enc (bs:List Bool):List Int:=bs.map fun b=>if b then 1 else 0
theorem Zjg (bs:List Bool):nk (Zaz bs)=some (enc bs):=by
 show Zkh (bs.map D.bl)=_
 induction bs with
 | nil=>rfl
 | cons b r ih =>
  rw[Xq,Zkh,ih]
  cases b<;>rfl
theorem Zom:∀ a b:List Bool,enc a=enc b->a=b
 | [],[],_=>rfl
 | [],_::_,h=>by simp[enc] at h
 | _::_,[],h=>by simp[enc] at h
 | x::a,y::b,h=>by
  have h1:(if x then (1:Int) else 0)=(if y then 1 else 0):=(Wbu.inj h).1
  have h2:enc a=enc b:=(Wbu.inj h).2
  rw[Zom a b h2]
  cases x<;>cases y<;>simp at h1<;>rfl
nonrec def kvD (v:List Bool->D) (bs:List Bool):D×D:=(Zaz bs,v bs)
theorem Zpw {v:List Bool->D} {bs:List Bool}:∀ done:List (List Bool),bs∈done->Zbh (done.map (kvD v)) (enc bs)=some (v bs)
 | [],h=>by simp at h
 | x::r,h=>by
  unfold Zbh
  rw[Xq,Wbz]
  by_cases c:x=bs
  ·subst c
   have:(nk (kvD v x).1==some (enc x))=true:=by simp[kvD,Zjg]
   rw[this]; rfl
  ·have:(nk (kvD v x).1==some (enc bs))=false:=by
    simp only[kvD,Zjg]
    exact beq_eq_false_iff_ne.mpr fun z=>c (Zom x bs (Xy.inj z))
   rw[this]
   rcases Xh.mp h with h | h
   ·exact absurd h.symm c
   ·exact Zpw r h
theorem Znb {v:List Bool->D} {bs:List Bool}:∀ done:List (List Bool),bs∉done->Zbh (done.map (kvD v)) (enc bs)=none
 | [],h=>rfl
 | x::r,h=>by
  unfold Zbh
  rw[Xq,Wbz]
  have c:x≠bs:=fun z=>h (by simp[z])
  have:(nk (kvD v x).1==some (enc bs))=false:=by
   simp only[kvD,Zjg]
   exact beq_eq_false_iff_ne.mpr fun z=>c (Zom x bs (Xy.inj z))
  rw[this]
  exact Znb r fun z=>h (by simp[z])
theorem putV {v:List Bool->D} {bs:List Bool} {done:List (List Bool)} (hn:bs∉done):Znq (done.map (kvD v)) (Zaz bs) (enc bs) (v bs)=(done++[bs]).map (kvD v):=by
 unfold Znq; rw[Znb done hn]; simp[kvD]
theorem Ycs {v:List Bool->D} {d:D} {done:List (List Bool)} {p:Nat} {bs:List Bool} {Q:HD->Prop} (g:H[p]? = some (.dic (done.map (kvD v)) false)) (ed:d=v bs) (hn:bs∉done) (hl:done.length<=10000) (q:Q (H.set p (.dic ((done++[bs]).map (kvD v)) false))):wH (Zlp (.ref p) (Zaz bs) d H) Q:=by
 subst ed
 have sz:(done.map (kvD v)).length<sizeLine:=by rw[Uy,Xk]; omega
 refine⟨_,?_,q⟩
 unfold Zlp
 simp only[g,Zjg,Zb,if_pos sz,putV hn]
theorem Zrv {v:List Bool->D} {done:List (List Bool)} {p:Nat} {fz:Bool} {bs:List Bool} (g:H[p]? = some (.dic (done.map (kvD v)) fz)) (hm:bs∈done) (q:Q (v bs) H):wE (Ze1 (.ref p) (Zaz bs) H) Q:=Zyh g (Zjg bs) (Zpw done hm) q
theorem w_irb {σ:SD} {f:AF} {I:List D->Zgc->HD->Prop} (h:wA (f σ H) fun ds H1=>∃ i j c,ds=[.int i,.int j,.int c]/\Zkd i j c/\I (Zf9 i c (Zg5 i j)) [] H1):wI (iRB f σ H) I:=by
 obtain⟨ds,H1,e,i,j,c,rfl,s1,q⟩:=h
 exact⟨_,_,H1,by unfold iRB; rw[e]; exact if_pos s1,q⟩
nonrec def Zwm:Nat->List D
 | 0=>[]
 | m+1=>.int m::Zwm m
theorem Zva:∀ n:Nat,Zf9 ((n:Int) - 1) (-1) n=Zwm n
 | 0=>rfl
 | n+1=>by
  have ih:=Zva n
  unfold Zf9 at ih ⊢
  rw[Wej,Xq,Wbt,Zwm,<- ih]
  congr 1
  ·congr 1; omega
  ·refine Wdr fun k _=>?_
   show D.int _=D.int _
   congr 1
   show (↑(n+1):Int) - 1+((k+1:Nat):Int) * -1=_
   omega
variable {σ:SD} {H:HD} {Q:D->HD->Prop}
nonrec def litI:D->Int
 | .int i=>i
 | _=>0
theorem Zxt {ks:List D} {n:Nat}:Zdv ks ((n:Int)+1) = !kS (ks.getD n .non):=by
 unfold Zdv
 rw[show Zas ((n:Int)+1)=(n:Int)+1 by unfold Zas; split<;>omega]
 congr 3
theorem Ztn {p r:Nat} {ds:List D} {xs:List Uaf} {h:Nat} (f:Fines ds xs h) (hh:h<30) (g1:H[p]? = some (.lst ds)) (g2:H[r]? = some (.lst [])) (q:Q (.bl ds.isEmpty) H):wE (eqD (.ref p) (.ref r) H) Q:=by
 refine⟨_,_,Zru (f.dat hh g1) ((Fines.nil (h:=0)).dat (by omega) g2),?_⟩
 have e:Ub (.list xs) (.list [])=ds.isEmpty:=by
  have l:=f.len
  cases ds with
  | nil=>cases xs with
   | nil=>rfl
   | cons a b=>simp at l
  | cons d r=>cases xs with
   | nil=>simp at l
   | cons a b=>simp[Ub,Uu]
 rw[e]; exact q
theorem Zuf {bs:List Bool} {l:Int} (h:1<=Zas l/\Zas l<=bs.length) (q:Q (.bl (rig bs l)) H):wE (Zep [.int l,Zaz bs] H) Q:=by
 refine Zbf rfl ?_
 show wS (Zdm [some (.int l),some (.tup (bs.map .bl))] H) _
 unfold Zdm
 have li:(Zas l - 1).toNat<bs.length:=by omega
 fail "g"
 rw[show Zas l - 1=(((Zas l - 1).toNat:Nat):Int) by omega]
 refine w_ixT (Zx6 (d:=.bl bs[(Zas l - 1).toNat]) (by simp[li])) ?_
 fail "g"
 refine w_eqB ?_
 have e:rig bs l=(bs[(Zas l - 1).toNat]==decide (0<l)):=by
  unfold rig
  rw[Xn li]
 fail "g"
 rw[e] at q
 exact q
theorem Zsu {n:Nat} (hn:n<=8) (q:∀ p (pls:List (List Bool)) H',H'[p]? = some (.lst (pls.map Zaz))->(∀ bs∈pls,bs.length=n)->pls.length<=256->Fm [] H H'->Q (.ref p) H'):wE (Zcy [.int n] H) Q:=by
 refine Zjj hn fun p H' g x=>q p (lev n) H' g (Zeq n) (Zg4 hn) x.fm
nonrec def keeps (rss:List (List Int)) (bs:List Bool):Bool:=rss.all fun row=>row.any (rig bs)
section
variable {ks:List D} {rss:List (List Int)} {bs:List Bool}
theorem Zyg {row:List Int} {s:List D} {H:HD} {Q:List D->HD->Prop} (hr:R ks.length row) (hb:bs.length=ks.length) (q:Q ((row.filter (rig bs)).map .int) H) :
  wA (Zee [] [some (Zaz bs)] (Zg7 (Zal 2 Zep (Zab (Zac 0) (Zab (Zac 1) Zaf)))) (Zac 0) (row.map .int) H) Q:=by
 refine Zeh (fun d=>rig bs (litI d)) (fun H'=>H'=H) (fun _ j=>Zh3) _ (fun y hy H3 j=>?_) _ rfl fun H3 j=>?_
 ·obtain⟨z,hz,rfl⟩:=Xx.mp hy
  subst j
  fail "g"
  refine Zuf (by rw[hb]; exact hr.rg z hz) ?_
  fail "g"
  exact⟨rfl,rfl⟩
 ·subst j
  have ef:(row.map D.int).filter (fun d=>rig bs (litI d))=(row.filter (rig bs)).map .int:=by
   rw[Wcl]
   rfl
  rw[ef]
  exact q
theorem Ztz (h8:ks.length<=8) (hr:∀ ls∈rss,R ks.length ls) (hb:bs.length=ks.length) (q:∀ H',ExtS [] H H'->Q (.bl (!keeps rss bs)) H'):wE (Zci [.tup (rss.map Zay),Zaz bs] H) Q:=by
 refine Zbf rfl ?_
 show wS (Zcu [some (.tup (rss.map Zay)),some (Zaz bs),none] H) _
 unfold Zcu
 fail "g"
 refine Zc6 (fun d t σ H'=>∃ (pre rs:List (List Int)) (z2:Option D),rss=pre++rs/\t=rs.map Zay/\keeps pre bs=true/\ExtS [] H H'/\σ=[some (.tup (rss.map Zay)),some (Zaz bs),z2]) (fun _ _ _ _ _=>Zh3) (fun d x t σ H2 ⟨pre,rs,z2,i1,i2,i3,i4,i5⟩=>?_) (fun d σ H2 ⟨pre,rs,z2,i1,i2,i3,i4,i5⟩=>?_) _ [] _ _ ⟨[],rss,_,rfl,rfl,rfl,ExtS.refl,rfl⟩
 ·subst i5
  cases rs with
  | nil=>cases i2
  | cons row rs =>
   obtain⟨rfl,rfl⟩:=Wbu.inj i2
   have rr:=hr row (by rw[i1]; simp)
   have lr:=rr.len
   fail "i"
   refine⟨row.map .int,[],rfl,?_⟩
   refine Zyg (s:=[]) rr hb ?_
   refine⟨by have:=Waq (rig bs) row; simp at this ⊢; omega,?_⟩
   fail "g"
   refine Ztn (Zb9 (row.filter (rig bs))) (by omega) (appL last) last ?_
   have ee:((row.filter (rig bs)).map D.int).isEmpty = !row.any (rig bs):=by
    cases v:row.any (rig bs) with
    | true =>
     obtain⟨l,h1,h2⟩:=Was.mp v
     cases w:row.filter (rig bs) with
     | nil=>exact absurd (Wad.mpr ⟨h1,h2⟩) (by rw[w]; simp)
     | cons a b=>rfl
    | false =>
     have:row.filter (rig bs)=[]:=Wek.mpr fun l hl=>Wcm.mp v l hl
     rw[this]; rfl
   rw[ee]
   have X3:=(i4.trans (ExtS.app (S:=[]) [DO.lst ((row.filter (rig bs)).map D.int)])).trans (ExtS.app (S:=[]) [DO.lst []])
   fail "g"
   cases v:row.any (rig bs) with
   | false =>
    have e:keeps rss bs=false:=by
     unfold keeps
     rw[i1,Weu,Wcu,v]
     simp
    have q:=q _ X3
    rw[e] at q
    fail "g"
    exact q
   | true =>
    fail "g"
    refine⟨pre++[row],rs,_,by rw[i1]; simp,rfl,?_,X3,rfl⟩
    unfold keeps at i3 ⊢
    rw[Weu,i3,Wcu,v]
    rfl
 ·subst i5
  cases rs with
  | cons row rs=>cases i2
  | nil =>
   rw[Waa] at i1
   subst i1
   have q:=q H2 i4
   rw[i3] at q
   fail "g"
   exact q
theorem Zv5 (h8:ks.length<=8) (hr:∀ ls∈rss,R ks.length ls) (hb:bs.length=ks.length) (q:∀ H',Fm [] H H'->Q (.bl (!keeps rss bs)) H'):wE (Zci [.tup (rss.map Zay),Zaz bs] H) Q:=by
 exact Ztz h8 hr hb fun H' x=>q H' x.fm
end
nonrec def sD (s:Str) (zs:List Int):D:=.tup (.str s::zs.map .int)
section
variable {ks:List D} {rss made xs pre:List (List Int)} {d:D} {x:List Int}
theorem Zkj {l:List (List Int)} {i:Nat} (h:i<l.length):l.getD i []=l[i]:=by
 rw[War,Xn h]; rfl
theorem St.stp (h:St ks rss made d x):stp ks rss made d=some x:=by
 cases h with
 | less i h =>
  unfold K08.stp
  dsimp only
  rw[if_pos rfl,if_pos ⟨by omega,by omega⟩,Wag,Zkj h]
 | row i h =>
  unfold K08.stp
  dsimp only
  rw[if_neg (by decide),if_pos rfl,if_pos ⟨by omega,by omega⟩,Wag,Zkj h]
 | joined i j n x hi hj hn ho e =>
  unfold K08.stp
  dsimp only
  rw[if_pos ⟨rfl,⟨by omega,by omega⟩,⟨by omega,by omega⟩,hn,ho⟩,Wag,Wag,Zkj hi,Zkj hj,e]
theorem St.shape (h:St ks rss made d x):∃ s zs,Tbz s=true/\zs.length<=3/\d=sD s zs:=by
 cases h with
 | less i h=>exact⟨_,[(i:Int)],Zfl (by decide),by simp,rfl⟩
 | row i h=>exact⟨_,[(i:Int)],Zfl (by decide),by simp,rfl⟩
 | joined i j n x hi hj hn ho e=>exact⟨_,[(i:Int),(j:Int),n],Zfl (by decide),by simp,rfl⟩
nonrec def mv (m:Nat) (d:D):D:=match d with
 | .tup [.str s,.int i]=>if s = "less" then .tup [.str s,.int (i+m)] else d
 | .tup [.str s,.int i,.int j,.int n]=>.tup [.str s,.int (i+m),.int (j+m),.int n]
 | d=>d
theorem St.mv (h:St ks rss made d x):St ks rss (pre++made) (mv pre.length d) x:=by
 have g:∀ {i:Nat} (hi:i<made.length),∃ h':i+pre.length<(pre++made).length,(pre++made)[i+pre.length]=made[i]:=fun {i} hi=>⟨by simp; omega,by rw[List.getElem_append_right (by omega)]; simp⟩
 cases h with
 | less i h =>
  obtain⟨h1,e1⟩:=g h
  rw[<- e1]
  unfold K08.mv
  dsimp only
  rw[if_pos rfl]
  exact .less (i+pre.length) h1
 | row i h =>
  unfold K08.mv
  dsimp only
  rw[if_neg (by decide)]
  exact .row i h
 | joined i j n x hi hj hn ho e =>
  obtain⟨h1,e1⟩:=g hi
  obtain⟨h2,e2⟩:=g hj
  exact .joined (i+pre.length) (j+pre.length) n x h1 h2 hn ho (by rw[e1,e2]; exact e)
theorem Zyc:∀ (ds:List D) (made:List (List Int)),mok ks rss made ds=true->mok ks rss (pre++made) (ds.map (mv pre.length))=true/\mad ks rss (pre++made) (ds.map (mv pre.length))=pre++mad ks rss made ds
 | [],made,_=>⟨rfl,rfl⟩
 | d::r,made,h=>by
  unfold mok at h
  cases e:stp ks rss made d with
  | none=>rw[e] at h; cases h
  | some x =>
   rw[e] at h
   have e2:=(St.of e).mv (pre:=pre).stp
   obtain⟨h1,h2⟩:=Zyc r (made++[x]) h
   rw[<- Xw] at h1 h2
   refine⟨?_,?_⟩
   ·simp only[Xq,mok,e2]; exact h1
   ·simp only[Xq,mad,e2,e]; exact h2
theorem Zqp {a b:List D} (ha:mok ks rss [] a=true) (hb:mok ks rss [] b=true):mok ks rss [] (a++b.map (mv a.length))=true/\mad ks rss [] (a++b.map (mv a.length))=mad ks rss [] a++mad ks rss [] b:=by
 have la:=Zgg ks rss a [] ha
 rw[Wav,Wcj] at la
 obtain⟨h1,h2⟩:=Zyc (pre:=mad ks rss [] a) b [] hb
 rw[la,Waa] at h1 h2
 rw[Zi3,Zkm _ _ _ _ _ ha,ha,h1,h2]
 exact⟨rfl,rfl⟩
end
variable {σ:SD} {H:HD} {Q:D->HD->Prop}
theorem Zpn {p r:Nat} {made:List (List Int)} (g1:H[p]? = some (.lst (made.map Zay))) (g2:H[r]? = some (.lst [])) (q:Q (.bl (!made.isEmpty)) H):wE (neD (.ref p) (.ref r) H) Q:=by
 obtain⟨xs,f⟩:=Zjt made
 exact Zry f (by omega) g1 g2 (by cases made<;>exact q)
theorem Zxk {r:Option (FD×SD×HD)} {k:SD->HD->Prop} {R:FD->SD->HD->Prop} (J:SD->HD->Prop) (h:wS r (Zz3 J R)) (q:∀ σ H,J σ H->k σ H):wS r (Zz3 k R):=by
 obtain⟨x,s,H,e,j⟩:=h
 refine⟨x,s,H,e,?_⟩
 cases x with
 | nx=>exact q s H j
 | bk=>exact j
 | ct=>exact j
 | rt d=>exact j
section
variable {pm pk pd:Nat} {ks:List D} {rss made:List (List Int)} {ds:List Int}
theorem Zyr (c:CR ks rss) (hm:∀ ls∈made,R ks.length ls) (hl:made.length<=100) (gm:H[pm]? = some (.lst (made.map Zay))) (gd:H[pd]? = some (.lst (ds.map .int))) (hd:Zxg ds) (h4:4<=ds.length)
  (q0:∀ H',Fm [] H H'->Q .non H') (q:∀ d x H',Fm [] H H'->St ks rss made d x->Q d H'):wE (Zdd [Zao ks rss,.str "all",.ref pm,.ref pk,.ref pd] H) Q:=by
 refine Zbf rfl ?_
 show wS (Zbt [some (Zao ks rss),some (.str "all"),some (.ref pm),some (.ref pk),some (.ref pd),none,none,none,none,none] H) _
 unfold Zbt
 refine w_seq (Zxk (fun σ' H'=>Fm [] H H'/\σ'=[some (Zao ks rss),some (.str "all"),some (.ref pm),some (.ref pk),some (.ref pd),none,none,none,none,none]) ?_ ?_)
 ·(refine WP.w_if ?_; fail "g")
  refine Zdj gd hd (by omega) (by omega) fun u u0 u1=>?_
  fail "g"
  refine⟨fun v=>?_,fun v=>?_⟩
  ·fail "g"
   refine Zpn (appL gm) last ?_
   have X1:Fm [] H (H++[.lst []]):=Fm.app _
   fail "g"
   cases em:made.isEmpty with
   | true=>fail "g"; exact⟨X1,rfl⟩
   | false =>
    have lm:0<made.length:=by cases made with | nil=>cases em | cons a b=>simp
    fail "g"
    refine Zdj (appL gd) hd (by omega) (by omega) fun u2 u20 u21=>?_
    fail "g"
    rw[Xk]
    refine w_mod (by omega) ?_
    fail "g"
    have m0:=Waw u2 (show (made.length:Int)≠0 by omega)
    have m1:=Wap u2 (show 0<(made.length:Int) by omega)
    obtain⟨i,hi⟩:∃ i:Nat,u2 % (made.length:Int)=i:=⟨(u2 % (made.length:Int)).toNat,by omega⟩
    rw[hi] at m1 ⊢
    exact q _ _ _ X1 (.less i (by omega))
  ·fail "g"
   exact⟨Fm.refl,rfl⟩
 rintro _ H' ⟨x,rfl⟩
 refine w_seq (Zxk (fun σ' H'=>Fm [] H H'/\∃ z3 z4 z5 z6 z7,σ'=[some (Zao ks rss),some (.str "all"),some (.ref pm),some (.ref pk),some (.ref pd),z3,z4,z5,z6,z7]) ?_ ?_)
 ·(refine WP.w_if ?_; fail "g")
  refine Zdj (x.lst (by simp) gd) hd (by omega) (by omega) fun u u0 u1=>?_
  fail "g"
  refine⟨fun v=>?_,fun v=>?_⟩
  ·fail "g"
   refine Zpn (appL (x.lst (by simp) gm)) last ?_
   have X1:Fm [] H (H'++[.lst []]):=x.trans (Fm.app _)
   fail "g"
   cases em:made.isEmpty with
   | true=>fail "g"; exact⟨X1,_,_,_,_,_,rfl⟩
   | false =>
    have lm:0<made.length:=by cases made with | nil=>cases em | cons a b=>simp
    have nl:=Zrs ks
    have h8:=c.h8
    refine w_bnt ?_
    fail "g"
    refine Zt2 c.hk c.h8 ⟨by simp; omega,?_⟩
    have X2:Fm [] H (H'++[.lst []]++[.lst ((nms ks).map .int)]):=X1.trans (Fm.app _)
    have gN:(H'++[.lst []]++[.lst ((nms ks).map .int)])[(H'++[DO.lst []]).length]? = some (.lst ((nms ks).map .int)):=last
    generalize (H'++[.lst []]++[.lst ((nms ks).map .int)])=H2 at X2 gN ⊢
    generalize (H'++[DO.lst []]).length=pN at gN ⊢
    fail "g"
    refine w_lenR (X2.lst (by simp) gm) ?_
    fail "g"
    rw[Xk]
    refine⟨_,rfl,⟨by omega,by omega⟩,?_⟩
    rw[Wag]
    refine Zi5 (fun σ H'=>Fm [] H H'/\H'[pN]? = some (.lst ((nms ks).map .int))/\∃ z4 z5 z6 z7,σ=[some (Zao ks rss),some (.str "all"),some (.ref pm),some (.ref pk),some (.ref pd),some (.ref pN),z4,z5,z6,z7]) (fun _ _ _=>Zh3) _ (fun d hd0 σ H3 ⟨i1,i2,z4,z5,z6,z7,i4⟩=>?_) _ _ ⟨X2,gN,_,_,_,_,rfl⟩ fun σ H3 ⟨i1,i2,z4,z5,z6,z7,i4⟩=>?_
    ·subst i4
     simp only[Zba,Xx,Wbi] at hd0
     obtain⟨tn,htn,rfl⟩:=hd0
     fail "g"
     refine Zdj (i1.lst (by simp) gd) hd (by omega) (by omega) fun u2 u20 u21=>?_
     fail "g"
     refine w_lenR (i1.lst (by simp) gm) ?_
     rw[Xk]
     fail "g"
     refine w_mod (by omega) ?_
     fail "g"
     refine Zdj (i1.lst (by simp) gd) hd (by omega) (by omega) fun u3 u30 u31=>?_
     fail "g"
     refine w_lenR (i1.lst (by simp) gm) ?_
     rw[Xk]
     fail "g"
     refine w_mod (by omega) ?_
     obtain⟨i,hi⟩:∃ i:Nat,(u2+(0+(tn:Int))) % (made.length:Int)=i:=⟨((u2+(0+(tn:Int))) % (made.length:Int)).toNat,by have:=Waw (u2+(0+(tn:Int))) (show (made.length:Int)≠0 by omega); omega⟩
     obtain⟨j,hj⟩:∃ j:Nat,(u3+3*(0+(tn:Int))) % (made.length:Int)=j:=⟨((u3+3*(0+(tn:Int))) % (made.length:Int)).toNat,by have:=Waw (u3+3*(0+(tn:Int))) (show (made.length:Int)≠0 by omega); omega⟩
     have li:=Wap (u2+(0+(tn:Int))) (show 0<(made.length:Int) by omega)
     have lj:=Wap (u3+3*(0+(tn:Int))) (show 0<(made.length:Int) by omega)
     rw[hi] at li
     rw[hj] at lj
     rw[hi,hj]
     fail "g"
     refine Zi5 (fun σ H'=>Fm [] H H'/\H'[pN]? = some (.lst ((nms ks).map .int))/\∃ z7,σ=[some (Zao ks rss),some (.str "all"),some (.ref pm),some (.ref pk),some (.ref pd),some (.ref pN),some (.int (0+(tn:Int))),some (.int i),some (.int j),z7]) (fun σ H' i=>Zok i.2.1) _ (fun d hd0 σ H4 ⟨k1,k2,z7,k4⟩=>?_) _ _ ⟨i1,i2,_,rfl⟩ fun σ H4 ⟨k1,k2,z7,k4⟩=>?_
     ·subst k4
      obtain⟨n,hn,rfl⟩:=Xx.mp hd0
      obtain⟨n1,n2,n3⟩:=Zt5.mp hn
      fail "i"
      have li':i<made.length:=by omega
      have lj':j<made.length:=by omega
      refine w_ixR (k1.lst (by simp) gm) (Zfb li') ?_
      fail "g"
      refine w_ixR (k1.lst (by simp) gm) (Zfb lj') ?_
      fail "g"
      refine Zia (hm _ (Wac li')) (hm _ (Wac lj')) c.h8 n1 fun H5 x5=>?_
      fail "g"
      have X5:=k1.trans x5
      cases ej:Zea made[i] made[j] n with
      | none =>
       refine w_isnN (b:=true) rfl ?_
       fail "g"
       exact⟨X5,x5.lst (by simp) k2,_,rfl⟩
      | some y =>
       refine w_isnN (b:=false) rfl ?_
       fail "g"
       exact q _ _ _ X5 (.joined i j n y li' lj' ⟨n1,n2⟩ n3 ej)
     ·subst k4
      fail "g"
      exact⟨k1,k2,_,_,_,_,rfl⟩
    ·subst i4
     fail "g"
     exact⟨i1,_,_,_,_,_,rfl⟩
  ·fail "g"
   exact⟨x,_,_,_,_,_,rfl⟩
 rintro _ H' ⟨x,z3,z4,z5,z6,z7,rfl⟩
 obtain⟨xs,f⟩:=Zjt rss
 have hrl:=c.hl
 fail "i"
 (refine WP.w_if ?_; fail "g")
 refine Zz5 f (by omega) ?_
 fail "g"
 cases er:rss with
 | nil=>fail "g"; exact q0 _ x
 | cons y r =>
  rw[<- er]
  fail "g"
  rw[show (rss.map Zay).isEmpty=false by rw[er]; rfl]
  fail "g"
  refine Zdj (x.lst (by simp) gd) hd (by omega) (by omega) fun u u0 u1=>?_
  fail "g"
  rw[Xk]
  have lr:0<rss.length:=by rw[er]; simp
  refine w_mod (by omega) ?_
  fail "g"
  have m0:=Waw u (show (rss.length:Int)≠0 by omega)
  have m1:=Wap u (show 0<(rss.length:Int) by omega)
  obtain⟨i,hi⟩:∃ i:Nat,u % (rss.length:Int)=i:=⟨(u % (rss.length:Int)).toNat,by omega⟩
  rw[hi] at m1 ⊢
  exact q _ _ _ x (.row i (by omega))
end
variable {σ:SD} {H:HD} {Q:D->HD->Prop}
section
variable {ks:List D} {rss:List (List Int)} {sd:D}
theorem Zne {many:Nat} (c:CR ks rss) (hm:many<=14) (at':∀ (H1:HD) (k:Int) (Q:D->HD->Prop),Fm [] H H1->0<=k->k<=1000->(∀ c,Q (.int c) H1)->wE (Zdw [sd,.int k] H1) Q)
  (q:∀ p ds H',H'[p]? = some (.lst ds)->mok ks rss [] ds=true->ds.length<=14->Fm [] H H'->Q (.ref p) H'):wE (Zcv [Zao ks rss,.str "all",sd,.int 2,.int many] H) Q:=by
 have h8:=c.h8
 refine Zbf rfl ?_
 show wS (Zbn [some (Zao ks rss),some (.str "all"),some sd,some (.int 2),some (.int many),none,none,none,none,none,none] H) _
 unfold Zbn
 fail "g"
 refine Zsu h8 fun pp pls H1 gp lp l256 xp=>?_
 fail "g"
 refine Zop (fun H'=>Fm [] H1 H') (fun H' j=>Zok (j.lst (by simp) gp)) _ (fun x hx H2 j=>?_) _ Fm.refl fun ys H2 j _ ly=>?_
 ·obtain⟨bs,hb,rfl⟩:=Xx.mp hx
  fail "g"
  refine Zv5 h8 c.hr (lp bs hb) fun H3 x3=>?_
  fail "g"
  exact j.trans x3
 rw[Xk] at ly
 refine⟨by omega,?_⟩
 have l5:(H++[DO.lst []]).length=H.length+1:=by simp
 rw[l5]
 have X0:Fm [] H (H++[.lst []]++[.lst []]):=(Fm.app _).trans (Fm.app _)
 have Y:=(xp.trans j).trans (Fm.app (S:=[]) [DO.lst ys])
 have Z:=X0.trans Y
 have g5:(H2++[.lst ys])[H.length]? = some (.lst []):=Y.lst (by simp) (appL last)
 have g6:(H2++[.lst ys])[H.length+1]? = some (.lst []):=Y.lst (by simp) (by rw[<- l5]; exact last)
 generalize H2++[.lst ys]=H3 at g5 g6 Z ⊢
 generalize H2.length=pk
 clear Y j xp
 fail "g"
 refine⟨_,rfl,⟨by omega,by omega⟩,?_⟩
 rw[Wag]
 refine Zc6 (fun d t σ H'=>∃ (ds:List D) (z6 z7 z8:Option D),(∀ x∈t,∃ i:Nat,x=.int i/\i<=14)/\d.length+t.length=many/\ds.length<=d.length/\mok ks rss [] ds=true/\H'[H.length]? = some (.lst ds)/\H'[H.length+1]? = some (.lst ((mad ks rss [] ds).map Zay))/\Fm [] H H'/\σ=[some (Zao ks rss),some (.str "all"),some sd,some (.int 2),some (.int many),some (.ref H.length),some (.ref (H.length+1)),some (.ref pk),z6,z7,z8]) (fun _ _ _ _ _=>Zh3) (fun d x t σ H1 ⟨ds,z6,z7,z8,i1,i2,i3,i4,i6,i7,i8,i9⟩=>?_) (fun d σ H1 ⟨ds,z6,z7,z8,i1,i2,i3,i4,i6,i7,i8,i9⟩=>?_) _ [] _ _ ⟨[],none,none,none,fun x hx=>?_,by simp[Zba],by simp,rfl,g5,g6,Z,rfl⟩
 ·subst i9
  obtain⟨i,rfl,hi⟩:=i1 x (by simp)
  have lm:=Zgg ks rss ds [] i4
  simp at i2 lm
  fail "g"
  refine at' _ _ _ i8 (by omega) (by omega) fun cell=>?_
  fail "g"
  refine Zh1 (many:=24) (by omega) fun dg pd H2 l2 d2 g2 n2 x2=>?_
  fail "g"
  refine Zwn (k:=14) g2 ?_
  rw[<- Wcy]
  fail "g"
  have X3:Fm [] H1 (H2++[.lst ((dg.drop 14).map .int)]):=x2.trans (Fm.app _)
  have g4:=X3.lst (by simp) i6
  have g5:=X3.lst (by simp) i7
  have tl:∀ y∈t,∃ i:Nat,y=.int i/\i<=14:=fun y hy=>i1 y (by simp[hy])
  refine Zyr c (Zvp c.hr ds [] (by simp)) (by omega) g5 last (d2.drop 14) (by simp; omega) (fun H4 x4=>?_) fun s y H4 x4 st=>?_
  ·have X4:=X3.trans x4
   fail "i"
   exact⟨ds,_,_,_,tl,by simp; omega,by simp; omega,i4,X4.lst (by simp) i6,X4.lst (by simp) i7,i8.trans X4,rfl⟩
  ·have X4:=X3.trans x4
   obtain⟨sn,zs,_,_,rfl⟩:=st.shape
   obtain⟨s1,s2⟩:=Zlf i4 st.stp
   have g4:=X4.lst (by simp) i6
   have g5:=X4.lst (by simp) i7
   fail "i"
   refine⟨isl g4,?_⟩
   fail "g"
   refine Zhf g4 (by omega) ?_
   fail "g"
   have n45:H.length≠H.length+1:=by omega
   have g5':(H4.set H.length (.lst (ds++[sD sn zs])))[H.length+1]? = some (.lst ((mad ks rss [] ds).map Zay)):=Zvk n45 g5
   refine⟨isl g5',?_⟩
   fail "g"
   refine Zu2 c.hk c.h8 (Zvp c.hr ds [] (by simp)) g5' st fun H6 x6=>?_
   fail "g"
   have g56:=x6.lst (by simp) g5'
   refine Zhf g56 (by simp; omega) ?_
   fail "g"
   refine⟨ds++[sD sn zs],_,_,_,tl,by simp; omega,by simp; omega,s1,Zvk (by omega) (x6.lst (by simp) (Zjl g4)),?_,?_,rfl⟩
   ·rw[Zjl g56,s2]
    simp
   ·have y1:=(i8.trans X4).new (Fm.set (S:=[H.length]) (p:=H.length) (o:=.lst (ds++[sD sn zs])) (by simp)) (fun q hq _=>by simp at hq; subst hq; exact Xd _)
    exact(y1.trans x6).new (Fm.set (S:=[H.length+1]) (by simp)) (fun q hq _=>by simp at hq; subst hq; exact Wdp _)
 ·simp only[Zba,Xx,Wbi] at hx
  obtain⟨k,hk,rfl⟩:=hx
  exact⟨k,by simp,by omega⟩
 ·subst i9
  simp at i2
  fail "g"
  exact q _ _ _ i6 i4 (by omega) i8
end
theorem Zxq:∀ (k:Nat) (bs:List Bool),bs.length=k->bs∈lev k:=by
 intro k
 induction k with
 | zero=>intro bs h; rw[Wcv.mp h]; simp[lev]
 | succ k ih =>
  intro bs h
  have hn:bs≠[]:=fun z=>by rw[z] at h; cases h
  have e:=List.dropLast_concat_getLast hn
  rw[lev,Wdi]
  refine⟨bs.dropLast,ih _ (by simp; omega),?_⟩
  generalize bs.dropLast=cs at e
  generalize bs.getLast hn=t at e
  subst e
  cases t<;>simp[two]
nonrec def Zvg (b:Bool):Str:=if b then "some" else "all"
theorem Zo7 (b:Bool):Za5 b=.str (Zvg b):=by cases b<;>rfl
theorem Zxy (b:Bool):Tbz (Zvg b)=true:=by cases b<;>exact Zfl (by decide)
theorem Ydi (a b:Bool):(Zvg a==Zvg b)=(a==b):=by
 have e1:(("some" : Str)==("all" : Str))=false:=by decide
 have e2:(("all" : Str)==("some" : Str))=false:=by decide
 cases a<;>cases b<;>simp[Zvg,e1,e2]
theorem Ycb {H:HD} {q:Nat} {a b w:Bool} (h:H[q]? = some (.lst [Za5 a,Za5 b])):inD (Za5 w) (.ref q) H=some (.bl (a==w||b==w),H):=by
 have e1:dat (Za5 w) H=some (.str (Zvg w)):=by
  unfold dat
  rw[Zo7,Zkg]
  simp only[Zb]
  rw[if_pos]
  simp[okP,Tac,Tam,Zxy]
 have e2:dat (.ref q) H=some (.list [.str (Zvg a),.str (Zvg b)]):=by
  unfold dat
  rw[toP]
  simp only[h,Zo7,Zrz,Zkg,Zb,Wen]
  rw[if_pos]
  simp[okP,Tac,Tbp,Tam,Tca,Zxy]
 unfold inD
 rw[e1]
 simp only[Zb]
 rw[e2]
 simp only[Zb,Zlq,Wen]
 have:∀ x y:Bool,Ub (.str (Zvg x)) (.str (Zvg y))=(x==y):=fun x y=>by
  rw[<- Ydi]; simp[Ub]
 simp[this]
theorem Zw1 {ks:List D} {rss:List (List Int)} {bs:List Bool} (h:bs.length=ks.length):Za5 (keeps rss bs)=FW ks rss bs:=by
 unfold FW
 rw[h,Wes]
 rfl
theorem Zv3 {ks:List D} {rss:List (List Int)} {bs:List Bool} {w a b:Bool} (h:bs.length<ks.length) (ew:kS (ks.getD bs.length .non)=w) (ea:W ks rss (ks.length - (bs++[false]).length) (bs++[false])=a) (eb:W ks rss (ks.length - (bs++[true]).length) (bs++[true])=b):FW ks rss bs=if (a==w||b==w)=true then Za5 w else Za5 (!w):=by
 have l:∀ t:Bool,(bs++[t]).length=bs.length+1:=fun t=>by simp
 have e:ks.length - bs.length=(ks.length - (bs.length+1))+1:=by omega
 rw[l] at ea eb
 unfold FW
 rw[e,W]
 simp only[ea,eb,ew]
 cases a<;>cases b<;>cases w<;>rfl
nonrec abbrev wb1:SF:=(Zag (Zvj (eOp ixD (Zd3 (Zab (eC (.str "some")) (Zab (eC (.str "all")) Zaf))) (eCB Zrn (Zab (Zal 2 Zci (Zab (Zac 5) (Zab (Zac 2) Zaf))) Zaf))) (gSb (Zac 1) (Zac 2) Zlp))
 Zak)
nonrec abbrev wb2:SF:=(Zag (Zbg 6 (Zd3 (Zab (eOp Ze1 (Zac 1) (eOp Zb0 (Zac 2) (Zdi (Zab (eC (.bl false)) Zaf)))) (Zab (eOp Ze1 (Zac 1) (eOp Zb0 (Zac 2) (Zdi (Zab (eC (.bl true)) Zaf)))) Zaf))))
 (Zag (Zbg 7 (eOp ixD (Zd3 (Zab (eC (.str "all")) (Zab (eC (.str "some")) Zaf))) (eCB Zrn (Zab (eOp eqD (eOp ixD (Zac 4) (Zac 3)) (eC (.str "all"))) Zaf))))
 (Zag (Zvj (eOp ixD (Zd3 (Zab (Zac 7) (Zab (eOp ixD (Zac 4) (Zac 3)) Zaf))) (eCB Zrn (Zab (eOp inD (eOp ixD (Zac 4) (Zac 3)) (Zac 6)) Zaf))) (gSb (Zac 1) (Zac 2) Zlp))
 Zak)))
section
variable {ks:List D} {rss:List (List Int)} {bs:List Bool} {dn:List (List Bool)} {f:Nat} {z0 z3 z6 z7:Option D} {R:FD->SD->HD->Prop}
theorem w_wb1 (c:CR ks rss) (hb:bs.length=ks.length) (gf:H[f]? = some (.dic (dn.map (kvD (FW ks rss))) false)) (hn:bs∉dn) (hl:dn.length<=10000)
  (q:∀ H',ExtS [] H H'->R .nx [z0,some (.ref f),some (Zaz bs),z3,some (.tup ks),some (.tup (rss.map Zay)),z6,z7] (H'.set f (.dic ((dn++[bs]).map (kvD (FW ks rss))) false))) :
  wS (wb1 [z0,some (.ref f),some (Zaz bs),z3,some (.tup ks),some (.tup (rss.map Zay)),z6,z7] H) R:=by
 unfold wb1
 fail "g"
 refine Ztz c.h8 c.hr hb fun H2 x2=>?_
 fail "g"
 refine w_ixR (x2.fm.lst (by simp) last) (d:=Za5 (keeps rss bs)) (by cases keeps rss bs; exact at1 _ _; exact at0 _ _) ?_
 fail "g"
 refine Ycs (x2.old _ _ (by simp) (appL gf)) (Zw1 hb) hn hl ?_
 fail "g"
 exact q _ ((ExtS.app _).trans x2)
theorem w_wb2 (c:CR ks rss) (hb:bs.length<ks.length) (gf:H[f]? = some (.dic (dn.map (kvD (FW ks rss))) false)) (h1:∀ t:Bool,bs++[t]∈dn) (hn:bs∉dn) (hl:dn.length<=10000)
  (q:∀ H' a b,ExtS [] H H'->R .nx [z0,some (.ref f),some (Zaz bs),some (.int bs.length),some (.tup ks),some (.tup (rss.map Zay)),a,b] (H'.set f (.dic ((dn++[bs]).map (kvD (FW ks rss))) false))) :
  wS (wb2 [z0,some (.ref f),some (Zaz bs),some (.int bs.length),some (.tup ks),some (.tup (rss.map Zay)),z6,z7] H) R:=by
 have h8:=c.h8
 unfold wb2
 fail "g"
 refine Zrv gf (h1 false) ?_
 fail "g"
 refine Zrv gf (h1 true) ?_
 obtain⟨a,ea,fa⟩:∃ a,W ks rss (ks.length - (bs++[false]).length) (bs++[false])=a/\FW ks rss (bs++[false])=Za5 a:=⟨_,rfl,rfl⟩
 obtain⟨b,eb,fb⟩:∃ a,W ks rss (ks.length - (bs++[true]).length) (bs++[true])=a/\FW ks rss (bs++[true])=Za5 a:=⟨_,rfl,rfl⟩
 have sk:=Zf4 c.hk hb
 have st:=Zv3 (rss:=rss) hb rfl ea eb
 generalize kS (ks.getD bs.length .non)=w at sk st
 rw[fa,fb]
 fail "g"
 refine w_ixT (Zbx sk) ?_
 fail "g"
 refine Zhw (b:=false) ?_
 fail "g"
 refine w_ixR last (d:=Za5 (!w)) (by cases w; exact at1 _ _; exact at0 _ _) ?_
 fail "g"
 refine w_ixT (Zbx sk) ?_
 fail "g"
 refine w_ixT (Zbx sk) ?_
 fail "g"
 refine⟨_,_,Ycb (appL (appL last)),?_⟩
 fail "g"
 refine w_ixR last (d:=FW ks rss bs) (by rw[st]; cases (a==w||b==w); exact at0 _ _; exact at1 _ _) ?_
 fail "g"
 refine Ycs (appL (appL (appL gf))) rfl hn hl ?_
 fail "g"
 exact q _ _ _ (((ExtS.app _).trans (ExtS.app _)).trans (ExtS.app _))
theorem w_wl1 {qp:Nat} {z2:Option D} (c:CR ks rss) (g:H[qp]? = some (.lst ((lev ks.length).map Zaz))) (gf:H[f]? = some (.dic [] false)) {H0:HD} (hf:H0.length<=f) (x0:Fm [] H0 H)
  (q:∀ z H',H'[f]? = some (.dic ((lev ks.length).map (kvD (FW ks rss))) false)->Fm [] H0 H'->R .nx [z0,some (.ref f),z,z3,some (.tup ks),some (.tup (rss.map Zay)),z6,z7] H') :
  wS (Zfr [(qp,.lst ((lev ks.length).map Zaz))] (gNm 2) wb1 ((lev ks.length).map Zaz) [z0,some (.ref f),z2,z3,some (.tup ks),some (.tup (rss.map Zay)),z6,z7] H) R:=by
 have l256:=Zg4 c.h8
 have nf:f≠qp:=fun e=>by rw[e,g] at gf; cases gf
 refine Zc6 (fun d t σ H'=>∃ (dn td:List (List Bool)) (z:Option D),t=td.map Zaz/\lev ks.length=dn++td/\H'[qp]? = some (.lst ((lev ks.length).map Zaz))/\H'[f]? = some (.dic (dn.map (kvD (FW ks rss))) false)/\Fm [] H0 H'/\σ=[z0,some (.ref f),z,z3,some (.tup ks),some (.tup (rss.map Zay)),z6,z7]) (fun d t σ H' ⟨dn,td,z,i1,i2,i3,i4,i5,i6⟩=>Zok i3) (fun d x t σ H' ⟨dn,td,z,i1,i2,i3,i4,i5,i6⟩=>?_) (fun d σ H' ⟨dn,td,z,i1,i2,i3,i4,i5,i6⟩=>?_) _ [] _ _ ⟨[],lev ks.length,z2,rfl,rfl,g,gf,x0,rfl⟩
 ·subst i6
  cases td with
  | nil=>cases i1
  | cons b tr =>
   obtain⟨rfl,rfl⟩:=Wbu.inj i1
   have nd:=Ziy ks.length
   have lb:=Zeq ks.length b (by rw[i2]; simp)
   rw[i2] at nd
   have hn:b∉dn:=fun z=>(Wat.mp nd).2.2 b z b (by simp) rfl
   have ln:dn.length<=256:=by have:=congrArg Wbo i2; simp at this; omega
   refine w_gnm ?_
   refine w_wb1 (bs:=b) c lb i4 hn (by omega) fun H2 x2=>?_
   refine w_agn ?_
   exact⟨dn++[b],tr,_,rfl,by rw[i2]; simp,Zvk nf (x2.old _ _ (by simp) i3),Zjl (x2.old _ _ (by simp) i4),(i5.trans x2.fm).new (Fm.set (S:=[f]) (by simp)) (fun m hm _=>by simp at hm; omega),rfl⟩
 ·subst i6
  cases td with
  | cons b tr=>cases i1
  | nil =>
   rw[Waa] at i2
   rw[<- i2] at i4
   exact q z H' i4 i5
theorem w_wl2 {m qp:Nat} {z2:Option D} {base:List (List Bool)} (c:CR ks rss) (hm:m<ks.length) (g:H[qp]? = some (.lst ((lev m).map Zaz))) (gf:H[f]? = some (.dic (base.map (kvD (FW ks rss))) false)) {H0:HD} (hf:H0.length<=f) (x0:Fm [] H0 H)
  (h1:∀ b∈lev (m+1),b∈base) (h2:∀ b∈base,m<b.length) (h3:base.length<=5000)
  (q:∀ z a b H',H'[f]? = some (.dic ((base++lev m).map (kvD (FW ks rss))) false)->Fm [] H0 H'->R .nx [z0,some (.ref f),z,some (.int m),some (.tup ks),some (.tup (rss.map Zay)),a,b] H') :
  wS (Zfr [(qp,.lst ((lev m).map Zaz))] (gNm 2) wb2 ((lev m).map Zaz) [z0,some (.ref f),z2,some (.int m),some (.tup ks),some (.tup (rss.map Zay)),z6,z7] H) R:=by
 have h8:=c.h8
 have l256:=Zg4 (k:=m) (by omega)
 have nf:f≠qp:=fun e=>by rw[e,g] at gf; cases gf
 refine Zc6 (fun d t σ H'=>∃ (dn td:List (List Bool)) (z a b:Option D),t=td.map Zaz/\lev m=dn++td/\H'[qp]? = some (.lst ((lev m).map Zaz))/\H'[f]? = some (.dic ((base++dn).map (kvD (FW ks rss))) false)/\Fm [] H0 H'/\σ=[z0,some (.ref f),z,some (.int m),some (.tup ks),some (.tup (rss.map Zay)),a,b]) (fun d t σ H' ⟨dn,td,z,a,b,i1,i2,i3,i4,i5,i6⟩=>Zok i3) (fun d x t σ H' ⟨dn,td,z,a,b,i1,i2,i3,i4,i5,i6⟩=>?_) (fun d σ H' ⟨dn,td,z,a,b,i1,i2,i3,i4,i5,i6⟩=>?_) _ [] _ _ ⟨[],lev m,z2,z6,z7,rfl,rfl,g,by rw[Waa]; exact gf,x0,rfl⟩
 ·subst i6
  cases td with
  | nil=>cases i1
  | cons y tr =>
   obtain⟨rfl,rfl⟩:=Wbu.inj i1
   have nd:=Ziy m
   have my:y∈lev m:=by rw[i2]; simp
   have ly:=Zeq m y my
   rw[i2] at nd
   have hn:y∉base++dn:=fun z=>by
    rcases Xv.mp z with z | z
    ·have:=h2 y z; omega
    ·exact(Wat.mp nd).2.2 y z y (by simp) rfl
   have ln:dn.length<=256:=by have:=congrArg Wbo i2; simp at this; omega
   refine w_gnm ?_
   subst ly
   refine w_wb2 c (by omega) i4 (fun t=>Xv.mpr (.inl (h1 _ (Zv6 t my)))) hn (by simp; omega) fun H2 a' b' x2=>?_
   refine w_agn ?_
   exact⟨dn++[y],tr,_,a',b',rfl,by rw[i2]; simp,Zvk nf (x2.old _ _ (by simp) i3),by rw[Zjl (x2.old _ _ (by simp) i4)]; simp,(i5.trans x2.fm).new (Fm.set (S:=[f]) (by simp)) (fun m hm _=>by simp at hm; omega),rfl⟩
 ·subst i6
  cases td with
  | cons b tr=>cases i1
  | nil =>
   rw[Waa] at i2
   rw[<- i2] at i4
   exact q z a b H' i4 i5
theorem Zm2 (c:CR ks rss) (q:∀ (p:Nat) (dn:List (List Bool)) (H':HD),H'[p]? = some (.dic (dn.map (kvD (FW ks rss))) false)->(∀ b:List Bool,b.length<=ks.length->b∈dn)->H.length<=p->Fm [] H H'->Q (.ref p) H'):wE (Zdg [Zao ks rss] H) Q:=by
 have h8:=c.h8
 have l256:=Zg4 c.h8
 refine Zbf rfl ?_
 show wS (Zcr [some (.tup [.tup ks,.tup (rss.map Zay)]),none,none,none,none,none,none,none] H) _
 unfold Zcr
 fail "g"
 refine Zjj h8 fun qp H1 g1 x1=>?_
 fail "g"
 have hne:H1[H.length]? = some (.dic [] false):=x1.old _ _ (by simp) last
 have X1:Fm [] H H1:=(Fm.app _).trans x1.fm
 refine w_wl1 (f:=H.length) c g1 hne (Xd _) X1 fun z H2 g2 x2=>?_
 fail "g"
 refine w_irb ?_
 fail "g"
 refine⟨_,_,_,rfl,⟨by omega,by omega,by omega,by omega,rfl⟩,?_⟩
 rw[show Zg5 ((ks.length:Int) - 1) (-1)=ks.length by unfold Zg5; omega,Zva]
 refine Zc6 (fun d t σ H'=>∃ (m:Nat) (dn:List (List Bool)) (z a b e:Option D),t=Zwm m/\m<=ks.length/\H'[H.length]? = some (.dic (dn.map (kvD (FW ks rss))) false)/\(∀ b:List Bool,m<=b.length->b.length<=ks.length->b∈dn)/\(∀ b∈dn,m<=b.length)/\dn.length+256*m<=256*9/\Fm [] H H'/\σ=[some (.tup [.tup ks,.tup (rss.map Zay)]),some (.ref H.length),z,e,some (.tup ks),some (.tup (rss.map Zay)),a,b]) (fun _ _ _ _ _=>Zh3) (fun d x t σ H' ⟨m,dn,z,a,b,e,i1,i2,i3,i4,i5,i6,i7,i8⟩=>?_) (fun d σ H' ⟨m,dn,z,a,b,e,i1,i2,i3,i4,i5,i6,i7,i8⟩=>?_) _ [] _ _ ⟨ks.length,lev ks.length,z,none,none,none,rfl,Xd _,g2,fun b h h'=>Zxq _ b (by omega),fun b h=>Nat.le_of_eq (Zeq _ b h).symm,by omega,x2,rfl⟩
 ·subst i8
  cases m with
  | zero=>cases i1
  | succ m =>
   obtain⟨rfl,rfl⟩:=Wbu.inj i1
   fail "g"
   refine Zjj (by omega) fun qp H2 g2 x2=>?_
   fail "g"
   refine w_wl2 (H0:=H) c (by omega) g2 (x2.old _ _ (by simp) i3) (Xd _) (i7.trans x2.fm) (fun b h=>i4 b (by have:=Zeq _ b h; omega) (by have:=Zeq _ b h; omega)) (fun b h=>i5 b h) (by omega) fun z' a' b' H3 g3 x3=>?_
   fail "g"
   refine⟨m,dn++lev m,_,_,_,_,rfl,by omega,g3,fun b h h'=>?_,fun b h=>?_,?_,x3,rfl⟩
   ·by_cases e:b.length=m
    ·exact Xr _ (Zxq _ b e)
    ·exact Wba _ (i4 b (by omega) h')
   ·rcases Xv.mp h with h | h
    ·have:=i5 b h; omega
    ·have:=Zeq m b h; omega
   ·have:=Zg4 (k:=m) (by omega)
    rw[Xl]; omega
 ·subst i8
  cases m with
  | succ m=>cases i1
  | zero =>
   fail "g"
   exact q _ dn H' i3 (fun b h=>i4 b (Wbb _) h) (Xd _) i7
end
theorem Zty (ks:List D):∀ r:List Int,Zbm ks r=[]->∀ x∈r,Zdv ks x=true
 | [],_,x,hx=>by cases hx
 | l::r,h,x,hx=>by
  rw[Zbm] at h
  split at h
  ·rename_i z; exact Wab.mp z x hx
  ·cases h
theorem Zfi (ks:List D):∀ (r:List Int) (x:Int),(Zbm ks r).getLast? = some x->Zdv ks x=false
 | [],x,h=>by cases h
 | l::r,x,h=>by
  rw[Zbm] at h
  split at h
  ·cases h
  ·rename_i z
   cases e:Zbm ks r with
   | nil =>
    rw[e] at h
    cases h
    have al:=Zty ks r e
    show Zdv ks l=false
    cases o:Zdv ks l with
    | false=>rfl
    | true =>
     exact absurd (Wab.mpr fun y hy=>by
      rcases Xh.mp hy with rfl | hy
      ·exact o
      ·exact al y hy) z
   | cons a b =>
    refine Zfi ks r x ?_
    rw[e] at h ⊢
    rw[List.getLast?_cons_cons] at h
    exact h
theorem Zq8 (ks:List D) (r:List Int):Zbm ks (Zbm ks r)=Zbm ks r:=by
 have:=Zja ks (Zbm ks r) [] (by simp) (Zfi ks r)
 simpa using this
theorem Zuc {m:Int} {r:List Int} {l:Int} (u:Up m 0 r) (h:l∈r):∃ z,r.getLast? = some z/\z∈r/\Zas l<=Zas z:=by
 rcases List.eq_nil_or_concat r with rfl | ⟨a,z,e⟩
 ·cases h
 ·rw[List.concat_eq_append] at e
  subst e
  refine⟨z,by simp,by simp,?_⟩
  rcases Xv.mp h with h | h
  ·exact Int.le_of_lt (Zpz u l h z (by simp))
  ·rw[Wcw.mp h]; exact Wck _
structure Lt (ks:List D) (bs:List Bool) (r:List Int):Prop where
 up:Up ks.length 0 r
 ls:Zbm ks r=r
 wr:∀ l∈r,Zas l<=bs.length/\rig bs l=false
section
variable {ks:List D} {rss:List (List Int)} {bs:List Bool} {r x:List Int} {t:Bool}
theorem Lt.of (u:Up ks.length 0 x) (h:∀ l∈Zbm ks x,Zas l<=bs.length/\rig bs l=false):Lt ks bs (Zbm ks x):=by
 refine⟨?_,Zq8 ks x,h⟩
 obtain⟨tl,e,_⟩:=Zcx ks x
 rw[e] at u
 exact Zqa u
theorem Lt.last (h:Lt ks bs r) {z:Int} (e:r.getLast? = some z):Zdv ks z=false:=by
 rw[<- h.ls] at e
 exact Zfi ks r z e
theorem Zo9 {z:Int}:Zdv ks z = !kS (ks.getD (Zas z - 1).toNat .non):=by
 unfold Zdv
 rw[show (Zas z).toNat - 1=(Zas z - 1).toNat by omega]
theorem Lt.leaf (u:Up ks.length 0 x) (hk:kept bs x=false) (ha:Zhr ks (rest bs x)=true):Lt ks bs (Zbm ks x):=by
 refine Lt.of u fun l hl=>?_
 have sub:=(Zgp ks x).subset
 refine⟨?_,?_⟩
 ·refine Int.not_lt.mp fun g=>?_
  have u2:Up ks.length 0 (Zbm ks x):=by
   obtain⟨tl,e,_⟩:=Zcx ks x
   rw[e] at u
   exact Zqa u
  obtain⟨z,e,hz,le⟩:=Zuc u2 hl
  have o:=Zfi ks x z e
  have hr:z∈rest bs x:=Wad.mpr ⟨sub hz,decide_eq_true (by omega)⟩
  have:=Wab.mp ha z hr
  rw[Zo9] at o
  rw[o] at this
  cases this
 ·have:=Wcm.mp hk l (sub hl)
  simpa using this
theorem Zsw {l:Int} (h1:1<=Zas l) (h2:Zas l<=bs.length):rig (bs++[t]) l=rig bs l:=by
 have:=Zku (bs:=bs++[t]) (k:=bs.length) h2 h1
 rw[Wfz] at this
 exact this.symm
theorem Lt.skip (h:Lt ks (bs++[t]) r) (hn:∀ l∈r,Zas l≠(bs.length:Int)+1):Lt ks bs r:=by
 refine⟨h.up,h.ls,fun l hl=>?_⟩
 obtain⟨h1,h2⟩:=h.wr l hl
 have h3:=hn l hl
 have h4:=(Zpf (by omega) h.up).1.rg l hl
 rw[Xl,Wbm] at h1
 have h5:Zas l<=bs.length:=by omega
 rw[Zsw h4.1 h5] at h2
 exact⟨h5,h2⟩
theorem Lt.at (h:Lt ks (bs++[t]) r) {l:Int} (hl:l∈r) (e:Zas l=(bs.length:Int)+1):r.getLast? = some l/\l=if t then -((bs.length:Int)+1) else (bs.length:Int)+1:=by
 obtain⟨z,e1,hz,le⟩:=Zuc h.up hl
 have h1:=(h.wr z hz).1
 rw[Xl,Wbm] at h1
 have ez:z=l:=(Zpf (by omega) h.up).1.inj hz hl (by omega)
 refine⟨by rw[e1,ez],?_⟩
 have h2:=(h.wr l hl).2
 unfold rig at h2
 rw[show (Zas l - 1).toNat=bs.length by omega,Wds] at h2
 have ab:l=(bs.length:Int)+1\/l = -((bs.length:Int)+1):=by unfold Zas at e; split at e<;>omega
 cases t with
 | true =>
  rcases ab with y | y
  ·rw[decide_eq_true (by omega)] at h2; cases h2
  ·exact y
 | false =>
  rcases ab with y | y
  ·exact y
  ·rw[decide_eq_false (by omega)] at h2; cases h2
theorem Lt.pick (h:Lt ks (bs++[t]) r) (ho:kS (ks.getD bs.length .non)=false):Lt ks bs r:=by
 refine h.skip fun l hl e=>?_
 have:=h.last (h.at hl e).1
 rw[Zo9,show (Zas l - 1).toNat=bs.length by omega,ho] at this
 cases this
theorem Zev (n:Nat):Zas ((n:Int)+1)=(n:Int)+1:=by unfold Zas; split<;>omega
theorem Lt.some (h:Lt ks (bs++[t]) r) (hn:(bs.length:Int)+1∈r \/ -((bs.length:Int)+1)∈r):r.getLast? = .some (if t then -((bs.length:Int)+1) else (bs.length:Int)+1):=by
 rcases hn with e | e
 ·obtain⟨h1,h2⟩:=h.at e (Zev _)
  rw[h1]; exact congrArg _ h2
 ·obtain⟨h1,h2⟩:=h.at e (by rw[Zit,Zev])
  rw[h1]; exact congrArg _ h2
theorem Lt.none (h:Lt ks (bs++[t]) r) (h1:(bs.length:Int)+1∉r) (h2 : -((bs.length:Int)+1)∉r):Lt ks bs r:=by
 refine h.skip fun l hl e=>?_
 have ab:l=(bs.length:Int)+1\/l = -((bs.length:Int)+1):=by unfold Zas at e; split at e<;>omega
 rcases ab with y | y
 ·exact h1 (y ▸ hl)
 ·exact h2 (y ▸ hl)
theorem Lt.rest (h:Lt ks (bs++[t]) r) {n:Int} (e:r.getLast? = .some n) (hn:Zas n=(bs.length:Int)+1) {l:Int} (hl:l∈r) (hne:l≠n):1<=Zas l/\Zas l<=bs.length/\rig bs l=false:=by
 obtain⟨h1,h2⟩:=h.wr l hl
 have h4:=(Zpf (by omega) h.up).1.rg l hl
 rw[Xl,Wbm] at h1
 have h3:Zas l≠(bs.length:Int)+1:=fun z=>by
  have:=(h.at hl z).1
  rw[e] at this
  cases this
  exact hne rfl
 have h5:Zas l<=bs.length:=by omega
 rw[Zsw h4.1 h5] at h2
 exact⟨h4.1,h5,h2⟩
theorem Lt.join {a b:List Int} (ha:Lt ks (bs++[false]) a) (hb:Lt ks (bs++[true]) b) (ea:a.getLast? = .some ((bs.length:Int)+1)) (eb:b.getLast? = .some (-((bs.length:Int)+1))) :
  ∃ x,Zea a b ((bs.length:Int)+1)=.some x/\Up ks.length 0 x/\∀ l∈x,Zas l<=bs.length/\rig bs l=false:=by
 have ra:=(Zpf (by omega) ha.up).1
 have rb:=(Zpf (by omega) hb.up).1
 have ma:∀ {l:Int},l∈a.filter (fun x=>decide (x≠(bs.length:Int)+1))->1<=Zas l/\Zas l<=bs.length/\rig bs l=false:=fun {l} h=>by
  obtain⟨h1,h2⟩:=Wad.mp h
  exact ha.rest ea (Zev _) h1 (of_decide_eq_true h2)
 have mb:∀ {l:Int},l∈b.filter (fun x=>decide (x ≠ -((bs.length:Int)+1)))->1<=Zas l/\Zas l<=bs.length/\rig bs l=false:=fun {l} h=>by
  obtain⟨h1,h2⟩:=Wad.mp h
  exact hb.rest eb (by rw[Zit,Zev]) h1 (of_decide_eq_true h2)
 have no:(b.filter fun x=>decide (x ≠ -((bs.length:Int)+1))).any (fun x=>decide (-x∈a.filter fun x=>decide (x≠(bs.length:Int)+1)))=false:=by
  rw[Wcm]
  intro l hl z
  obtain⟨b1,b2,b3⟩:=mb hl
  obtain⟨_,_,a3⟩:=ma (of_decide_eq_true z)
  rw[Zto ⟨b1,b2⟩,b3] at a3
  cases a3
 unfold Zea
 rw[if_neg (fun z=>z.elim (fun z=>z (Wdk ea)) fun z=>z (Wdk eb)),if_neg (by rw[no]; simp)]
 refine⟨_,rfl,Zo4 (R.join0 (ra.sub Wax) (rb.sub Wax) no),fun l hl=>?_⟩
 rcases Xv.mp ((Zch _).mem_iff.mp hl) with z | z
 ·exact(ma z).2
 ·exact(mb (Wad.mp z).1).2
end
nonrec def eS (ks:List D):Nat:=if ks.all kS=true then 1 else 2
nonrec def nS (ks:List D) (i:Nat):Nat:=((ks.drop i).filter kS).length
theorem Ycx {ks:List D} {i:Nat} (h:i<ks.length) (ho:kS (ks.getD i .non)=false):nS ks i=nS ks (i+1):=by
 unfold nS
 rw[Wau h,Waz]
 rw[War,Xn h] at ho
 simpa using ho
theorem Zy9 {ks:List D} {i:Nat} (h:i<ks.length) (ho:kS (ks.getD i .non)=true):nS ks i=nS ks (i+1)+1:=by
 unfold nS
 rw[Wau h,Wbq]
 ·rfl
 ·rw[War,Xn h] at ho
  simpa using ho
theorem Yan {ks:List D} {x:List Int} (r:R ks.length x) (h:Zbm ks x≠x):eS ks=2:=by
 obtain⟨tl,e,ho⟩:=Zcx ks x
 unfold eS
 refine if_neg fun z=>?_
 cases tl with
 | nil=>rw[Waa] at e; exact h e.symm
 | cons l tl =>
  have hl:l∈x:=by rw[e]; simp
  have o:=ho l (by simp)
  obtain⟨r1,r2⟩:=r.rg l hl
  have hi:(Zas l - 1).toNat<ks.length:=by omega
  rw[Zo9,War,Xn hi] at o
  have:=Wab.mp z _ (Wac hi)
  simp only[Option.getD_some] at o
  rw[this] at o
  cases o
theorem Zxl (ks:List D):1<=eS ks/\eS ks<=2:=by unfold eS; split<;>omega
nonrec def prD (e:D×List Int):D:=.tup [e.1,Zay e.2]
structure Rt (ks:List D) (rss:List (List Int)) (L:List (D×List Int)):Prop where
 ok:mok ks rss [] (L.map (·.1))=true
 eq:mad ks rss [] (L.map (·.1))=L.map (·.2)
theorem Rt.snoc {ks:List D} {rss:List (List Int)} {L:List (D×List Int)} {d:D} {x:List Int} (h:Rt ks rss L) (st:St ks rss (L.map (·.2)) d x):Rt ks rss (L++[(d,x)]):=by
 obtain⟨s1,s2⟩:=Zlf h.ok (by rw[h.eq]; exact st.stp)
 refine⟨by rw[Wae]; exact s1,?_⟩
 rw[Wae,Wae]
 rw[h.eq] at s2
 exact s2
theorem _root_.WP.Fm.keep {S:List Nat} {H H':HD} (x:Fm S H H') {m:Nat} {o:DO} (hm:m∉S) (h:H[m]? = some o) (hd:∀ kvs,o≠.dic kvs false):H'[m]? = some o:=by
 rcases x.old m _ hm h with h1 | ⟨k2,e,_⟩
 ·exact h1
 ·exact absurd e (hd k2)
theorem _root_.WP.Fm.dci {S:List Nat} {H H':HD} (x:Fm S H H') {m:Nat} {kvs:List (Int×D)} (hm:m∉S) (h:H[m]? = some (.dci kvs)):H'[m]? = some (.dci kvs):=x.keep hm h fun _ e=>by cases e
variable {σ:SD} {H:HD} {Q:D->HD->Prop}
theorem Zio:∀ a b:List Int,Uu (a.map .int) (b.map .int)=decide (a=b)
 | [],[]=>by simp[Uu]
 | [],_::_=>by simp[Uu]
 | _::_,[]=>by simp[Uu]
 | x::a,y::b=>by
  rw[Xq,Xq,Uu,Zio a b]
  have:Ub (.int x) (.int y)=decide (x=y):=by simp[Ub]; rfl
  rw[this]
  by_cases h:x=y<;>by_cases k:a=b<;>simp[h,k]
theorem Yaf {a b:List Int} (q:Q (.bl (!decide (a=b))) H):wE (neD (Zay a) (Zay b) H) Q:=Zyv (Fine.tup (Zb9 a)) (Fine.tup (Zb9 b)) (by omega) (by omega) (by rw[Ub,Zio]; exact q)
theorem Zx4 {n:Nat} {kvs:List (Int×D)} {k:Int} {v:D} (g:H[n]? = some (.dci kvs)) (h:Zhs kvs k=some v) (q:Q v H):wE (Zsb (.ref n) (.int k) H) Q:=⟨_,_,by simp[Zsb,Yau,g,h],q⟩
section
variable {ks:List D} {rss:List (List Int)} {L:List (D×List Int)} {pp pc:Nat} {bs:List Bool}
theorem Zlz {d:D} {x:List Int} (c:CR ks rss) (g:H[pp]? = some (.lst (L.map prD))) (hl:L.length<=5000) (rt:Rt ks rss L) (st:St ks rss (L.map (·.2)) d x) (hx:R ks.length x)
  (q:∀ M e H',H'[pp]? = some (.lst ((L++M).map prD))->Rt ks rss (L++M)->M.getLast? = some (e,Zbm ks x)->M.length<=eS ks->Fm [pp] H H'->Q .non H'):wE (Zfo [.tup ks,.str "all",.ref pp,d,Zay x] H) Q:=by
 have e12:=Zxl ks
 have rt1:=rt.snoc st
 refine Zbf rfl ?_
 show wS (Zd4 [some (.tup ks),some (.str "all"),some (.ref pp),some d,some (Zay x),none] H) _
 unfold Zd4
 fail "g"
 refine⟨isl g,?_⟩
 fail "g"
 refine Zhf g (by simp; omega) ?_
 fail "g"
 refine Zj0 c.hk c.h8 hx ?_
 have g1:(H.set pp (.lst (L.map prD++[.tup [d,Zay x]])))[pp]? = some (.lst ((L++[(d,x)]).map prD)):=by rw[Zjl g,Wae]; rfl
 have x1:Fm [pp] H (H.set pp (.lst (L.map prD++[.tup [d,Zay x]]))):=Fm.set (by simp)
 fail "i"
 refine Yaf ?_
 fail "g"
 refine⟨fun z=>?_,fun z=>?_⟩
 ·have z:Zbm ks x≠x:=by simpa using z
  have e2:=Yan hx z
  fail "g"
  refine⟨isl g1,?_⟩
  fail "g"
  rw[show ((List.map prD (L++[(d,x)])).length:Int) - 1=(L.length:Int) by simp]
  refine Zhf g1 (by simp; omega) ?_
  fail "g"
  have s2:St ks rss ((L++[(d,x)]).map (·.2)) (.tup [.str "less",.int (L.length:Nat)]) (Zbm ks x):=by
   have:=St.less (ks:=ks) (rss:=rss) (made:=(L++[(d,x)]).map (·.2)) L.length (by simp)
   have e:((L++[(d,x)]).map (·.2))[L.length]'(by simp)=x:=by simp
   rw[e] at this
   exact this
  refine q [(d,x),(.tup [.str "less",.int (L.length:Nat)],Zbm ks x)] _ _ ?_ ?_ rfl (by rw[e2]; simp) (x1.trans (Fm.set (by simp)))
  ·rw[Zjl g1]
   simp[prD]
  ·have:=rt1.snoc s2
   rw[Xw] at this
   exact this
 ·have z:Zbm ks x=x:=by simpa using z
  fail "g"
  exact q [(d,x)] d _ g1 rt1 (by rw[z]; rfl) (by simp; omega) x1
theorem Yaa {i m:Nat} {n:String} {x:Str} {F:D->FF} {f:AF} {j:Nat} {d:D} (h:σ[i]? = some (some (.ref j))) (g:H[j]? = some (.clo n x d)) (q:wA (f σ H) fun ds H1=>wN m (F d) ds H1 Q):wE (Zml i m n x F f σ H) Q:=by
 obtain⟨ds,H1,e,l,dd,H2,e2,q⟩:=q
 refine⟨dd,H2,?_,q⟩
 unfold Zml
 rw[h]
 simp only[g]
 rw[if_pos (by simp),e]
 simp only[Zb]
 rw[if_pos l]
 exact e2
theorem Ya1 {n N:Nat} {b:SF} {d:D} {ds:List D} (hl:ds.length=n) (h:wS (b ((ds++[d]).map some++Xs (N - (n+1)) none) H) (fin Q)):wE (Yar n N b d ds H) Q:=by
 obtain⟨x,s,H1,e,q⟩:=h
 unfold Yar
 rw[if_pos hl,e]
 simp only[Zb]
 cases x with
 | nx=>exact⟨_,_,rfl,q⟩
 | rt d=>exact⟨_,_,rfl,q⟩
 | bk=>exact q.elim
 | ct=>exact q.elim
theorem w_end {i:Nat} (hi:i<rss.length) (q:Q (.tup [.tup [.str "row",.int i],Zay rss[i]]) H):wE (Zdo (Zao ks rss) [.tup [.str "lost",.int i],Zaz bs] H) Q:=by
 refine Ya1 rfl ?_
 show wS (Zb4 [some (.tup [.str "lost",.int i]),some (Zaz bs),some (Zao ks rss)] H) _
 unfold Zb4
 fail "g"
 refine w_ixT (Zfb hi) ?_
 fail "g"
 exact q
end
variable {σ:SD} {H:HD} {Q:D->HD->Prop}
section
variable {ks:List D} {rss:List (List Int)} {L:List (D×List Int)} {pp pc:Nat} {bs:List Bool}
def Put (ks:List D) (rss:List (List Int)) (pp pc:Nat) (bs:List Bool) (n:Nat) (F:HD->Option (D×HD)):Prop :=
 ∀ (L:List (D×List Int)) (H:HD) (Q:D->HD->Prop),H[pp]? = some (.lst (L.map prD))->H[pc]? = some (.clo "row_paper" "claim" (Zao ks rss))->L.length+eS ks*2 ^ (n+1)<=5000->Rt ks rss L ->
  (∀ (M:List (D×List Int)) (e:D) (r:List Int) (H':HD),H'[pp]? = some (.lst ((L++M).map prD))->Rt ks rss (L++M)->M.getLast? = some (e,r)->Lt ks bs r->M.length+eS ks<=eS ks*2 ^ (n+1)->Fm [pp] H H'->Q .non H')->wE (F H) Q
theorem Zp9 {M:List (D×List Int)} {e:D} {r:List Int} (h:M.getLast? = some (e,r)):atI ((L++M).map prD) (-1)=some (.tup [e,Zay r]):=by
 obtain⟨a,rfl⟩:=Wbf.mp h
 rw[<- Xw,Wae]
 exact Zli _ _
theorem Zyb {M N:List (D×List Int)} {e:D} {r:List Int} (h:M.getLast? = some (e,r)):atI ((L++M++N).map prD) (((L++M).length - 1:Nat):Int)=some (.tup [e,Zay r]):=by
 obtain⟨a,rfl⟩:=Wbf.mp h
 have e1:(L++(a++[(e,r)])).length - 1=(L++a).length:=by simp
 rw[e1]
 refine Zbx ?_
 rw[<- Xw,Xw _ _ N,Xp,Xo (Xd _),Wes]
 rfl
theorem Zt9 {M:List (D×List Int)} {e:D} {r:List Int} (h:M.getLast? = some (e,r)):(((L++M).map prD).length:Int) - 1=(((L++M).length - 1:Nat):Int):=by
 obtain⟨a,rfl⟩:=Wbf.mp h
 simp
 omega
theorem Zs8 {n:Int} {r:List Int} {P:Bool->HD->Prop} (h6:(σ[6]?).join=some (.int n)) (h12:(σ[12]?).join=some (Zay r)) (q:P (decide (n∉r /\ -n∉r)) H):wT (tAn (tOf (eOp niD (Zac 6) (Zac 12))) (tOf (eOp niD (eUn Zjv (Zac 6)) (Zac 12))) σ H) P:=by
 refine w_an (w_tof (w_op (w_var h6 (w_var h12 (Zn7 (w_bl ?_))))))
 by_cases z:n∈r
 ·rw[decide_eq_true z]
  rw[decide_eq_false (fun y=>y.1 z)] at q
  exact w_bf q
 ·rw[decide_eq_false z]
  refine w_bt (w_tof (w_op (w_un (w_var h6 (w_neg (w_var h12 (Zn7 (w_bl ?_))))))))
  by_cases y : -n∈r
  ·rw[decide_eq_true y]
   rw[decide_eq_false (fun v=>v.2 y)] at q
   exact q
  ·rw[decide_eq_false y]
   rw[decide_eq_true ⟨z,y⟩] at q
   exact q
theorem Zxr {M N:List (D×List Int)} {e:D} {r:List Int} (h:M.getLast? = some (e,r)):∃ hi:(L++M).length - 1<((L++M++N).map (·.2)).length,((L++M++N).map (·.2))[(L++M).length - 1]=r:=by
 obtain⟨a,rfl⟩:=Wbf.mp h
 refine⟨by simp,?_⟩
 have e1:((L++(a++[(e,r)])).length) - 1=(L++a).length:=by simp
 rw[List.getElem_map]
 refine congrArg Prod.snd (?_:_=(e,r))
 rw[List.getElem_eq_iff,e1,<- Xw,Xw _ _ N,Xo (Xd _),Wes]
 rfl
theorem Zum {F1 F2:FF} {x y:D} (c:CR ks rss) (hpc:pp≠pc) (h0:bs.length<ks.length) (h1:kS (ks.getD bs.length .non)=true)
  (k1:Put ks rss pp pc (bs++[false]) (nS ks (bs.length+1)) (F1 [.tup ks,.str "all",.ref pc,.ref pp,x,Zaz (bs++[false])]))
  (k2:Put ks rss pp pc (bs++[true]) (nS ks (bs.length+1)) (F1 [.tup ks,.str "all",.ref pc,.ref pp,y,Zaz (bs++[true])])) :
  Put ks rss pp pc bs (nS ks bs.length) (Zbd 6 13 (Zau F1 F2) [.tup ks,.str "all",.ref pc,.ref pp,.tup [.str "each",x,y],Zaz bs]):=by
 intro L H Q g gc hl rt q
 have h8:=c.h8
 have en:=Zy9 h0 h1
 rw[en,Wet] at hl q
 generalize hP:eS ks*2 ^ (nS ks (bs.length+1)+1)=P at *
 rw[<- Nat.mul_assoc,hP] at hl q
 refine Zbf rfl ?_
 show wS (Zau F1 F2 [some (.tup ks),some (.str "all"),some (.ref pc),some (.ref pp),some (.tup [.str "each",x,y]),some (Zaz bs),none,none,none,none,none,none,none] H) _
 unfold Zau
 fail "g"
 refine Ybf ?_
 rw[k_TRUTHS]
 fail "g"
 refine w_sllo (k:=1) ?_
 fail "g"
 refine⟨_,_,_,_,rfl,rfl,rfl,?_⟩
 have lp:=(Xc.mp g).1
 have lc:=(Xc.mp gc).1
 have ea:Zas ((bs.length:Int)+1)=(bs.length:Int)+1:=Zev _
 have X0:Fm [pp] H (H++[.dci []]):=Fm.app _
 refine Ze4 Zh3 ?_
 fail "g"
 refine k1 L _ _ (appL g) (appL gc) (by omega) rt fun M1 e1 r1 H1 g1 rt1 la1 lt1 lm1 x1=>?_
 rw[hP] at lm1
 have gc1:=x1.keep (by simp; omega) (appL gc) (fun _ e=>by cases e)
 have gd1:=x1.dci (m:=H.length) (by simp; omega) last
 have X1:=X0.trans x1
 fail "g"
 refine w_ixR g1 (Zp9 la1) ?_
 fail "g"
 refine w_if (Zs8 rfl rfl ?_)
 by_cases m1:(bs.length:Int)+1∉r1 /\ -((bs.length:Int)+1)∉r1
 ·rw[decide_eq_true m1]
  fail "g"
  exact q M1 e1 r1 H1 g1 rt1 la1 (lt1.none m1.1 m1.2) (by omega) X1
 rw[decide_eq_false m1]
 have m1':(bs.length:Int)+1∈r1 \/ -((bs.length:Int)+1)∈r1:=by
  by_cases z:(bs.length:Int)+1∈r1
  ·exact .inl z
  ·exact .inr (Tbm fun y=>m1 ⟨z,y⟩)
 have l1:=lt1.some m1'
 rw[if_neg (by simp)] at l1
 have at1':atI (r1.map D.int) (-1)=some (.int ((bs.length:Int)+1)):=by
  obtain⟨a,rfl⟩:=Wbf.mp l1
  rw[Wae]; exact Zli _ _
 fail "g"
 rw[Zt9 la1]
 refine w_ixT at1' ?_
 fail "g"
 refine Ztv gd1 (by simp) ?_
 fail "g"
 have g1':=Zvk (u:=DO.dci (Zkx [] ((bs.length:Int)+1) (.int (((L++M1).length - 1:Nat):Int)))) (show H.length≠pp by omega) g1
 have gc1':=Zvk (u:=DO.dci (Zkx [] ((bs.length:Int)+1) (.int (((L++M1).length - 1:Nat):Int)))) (show H.length≠pc by omega) gc1
 have gd1':=Zjl (o:=DO.dci (Zkx [] ((bs.length:Int)+1) (.int (((L++M1).length - 1:Nat):Int)))) gd1
 have X1':Fm [pp] H (H1.set H.length (DO.dci (Zkx [] ((bs.length:Int)+1) (.int (((L++M1).length - 1:Nat):Int))))):=X1.new (Fm.set (S:=[H.length]) (by simp)) (fun q hq _=>by simp at hq; omega)
 generalize H1.set H.length (DO.dci (Zkx [] ((bs.length:Int)+1) (.int (((L++M1).length - 1:Nat):Int))))=H2 at g1' gc1' gd1' X1' ⊢
 refine Ze4 Zh3 ?_
 fail "g"
 refine k2 (L++M1) _ _ g1' gc1' (by rw[Xl]; omega) rt1 fun M2 e2 r2 H3 g3 rt3 la2 lt2 lm2 x3=>?_
 rw[hP] at lm2
 rw[Xw] at rt3
 have gd3:=x3.dci (by simp; omega) gd1'
 have gc3:=x3.keep (by simp; omega) gc1' (fun _ e=>by cases e)
 have X3:=X1'.trans x3
 fail "g"
 refine w_ixR g3 (Zp9 la2) ?_
 fail "g"
 refine w_if (Zs8 rfl rfl ?_)
 by_cases m2:(bs.length:Int)+1∉r2 /\ -((bs.length:Int)+1)∉r2
 ·rw[decide_eq_true m2]
  fail "g"
  exact q (M1++M2) e2 r2 H3 (by rw[<- Xw]; exact g3) rt3 (by rw[Wdl,la2]; rfl) (lt2.none m2.1 m2.2) (by rw[Xl]; omega) X3
 rw[decide_eq_false m2]
 have m2':(bs.length:Int)+1∈r2 \/ -((bs.length:Int)+1)∈r2:=by
  by_cases z:(bs.length:Int)+1∈r2
  ·exact .inl z
  ·exact .inr (Tbm fun y=>m2 ⟨z,y⟩)
 have l2:=lt2.some m2'
 rw[if_pos rfl] at l2
 have at2':atI (r2.map D.int) (-1)=some (.int (-((bs.length:Int)+1))):=by
  obtain⟨a,rfl⟩:=Wbf.mp l2
  rw[Wae]; exact Zli _ _
 fail "g"
 rw[Zt9 la2]
 refine w_ixT at2' ?_
 fail "g"
 refine Ztv gd3 (by simp[Zkx]) ?_
 have nn:¬ ((bs.length:Int)+1 = -((bs.length:Int)+1)):=by omega
 have ip:Zkx (Zkx [] ((bs.length:Int)+1) (.int (((L++M1).length - 1:Nat):Int))) (-((bs.length:Int)+1)) (.int (((L++M1++M2).length - 1:Nat):Int))=[((bs.length:Int)+1,.int (((L++M1).length - 1:Nat):Int)),(-((bs.length:Int)+1),.int (((L++M1++M2).length - 1:Nat):Int))]:=by
  unfold Zkx
  simp[nn]
 rw[ip]
 have g4:=Zvk (u:=DO.dci [((bs.length:Int)+1,.int (((L++M1).length - 1:Nat):Int)),(-((bs.length:Int)+1),.int (((L++M1++M2).length - 1:Nat):Int))]) (show H.length≠pp by omega) g3
 have gd4:=Zjl (o:=DO.dci [((bs.length:Int)+1,.int (((L++M1).length - 1:Nat):Int)),(-((bs.length:Int)+1),.int (((L++M1++M2).length - 1:Nat):Int))]) gd3
 have X4:Fm [pp] H (H3.set H.length (DO.dci [((bs.length:Int)+1,.int (((L++M1).length - 1:Nat):Int)),(-((bs.length:Int)+1),.int (((L++M1++M2).length - 1:Nat):Int))])):=X3.new (Fm.set (S:=[H.length]) (by simp)) (fun q hq _=>by simp at hq; omega)
 generalize H3.set H.length (DO.dci [((bs.length:Int)+1,.int (((L++M1).length - 1:Nat):Int)),(-((bs.length:Int)+1),.int (((L++M1++M2).length - 1:Nat):Int))])=H4 at g4 gd4 X4 ⊢
 have p1:=Zyb (L:=L) (M:=M1) (N:=M2) la1
 have p2:=Zyb (L:=L++M1) (M:=M2) (N:=[]) la2
 obtain⟨b1,w1⟩:=Zxr (L:=L) (M:=M1) (N:=M2) la1
 obtain⟨b2,w2⟩:=Zxr (L:=L++M1) (M:=M2) (N:=[]) la2
 rw[Waa] at p2
 simp only[Waa] at b2 w2
 fail "g"
 refine Zl8 Zh3 ?_
 fail "g"
 refine Zx4 gd4 (v:=.int (((L++M1).length - 1:Nat):Int)) (by simp[Zhs]) ?_
 fail "g"
 refine Zx4 gd4 (v:=.int (((L++M1++M2).length - 1:Nat):Int)) (by unfold Zhs; rw[Wce (by simpa using nn)]; simp) ?_
 fail "g"
 refine w_ixR g4 p1 ?_
 fail "g"
 refine w_ixR g4 p2 ?_
 fail "g"
 obtain⟨x',ej,ux,wx⟩:=Lt.join lt1 lt2 l1 l2
 refine Zpp (Zpf (by omega) lt1.up).1 (Zpf (by omega) lt2.up).1 h8 fun H5 x5=>?_
 rw[ej]
 fail "g"
 have own:Zdv ks ((bs.length:Int)+1)=false:=by rw[Zxt,h1]; rfl
 rw[<- Xw] at rt3
 refine Zlz c (x5.lst (by simp) g4) (by simp only[Xl]; omega) rt3 (.joined ((L++M1).length - 1) ((L++M1++M2).length - 1) _ x' b1 b2 ⟨by omega,by omega⟩ own (by rw[w1,w2]; exact ej)) (Zpf (by omega) ux).1 fun M3 e3 H6 g6 rt6 la6 lm6 x6=>?_
 fail "g"
 refine q (M1++M2++M3) e3 (Zbm ks x') H6 (by rw[<- Xw,<- Xw]; exact g6) (by rw[<- Xw,<- Xw]; exact rt6) (by rw[Wdl,la6]; rfl) (Lt.of ux fun l hl=>wx l ((Zgp ks x').subset hl)) (by simp only[Xl]; omega) ((X4.trans (x5.sub (by simp))).trans x6)
theorem Ych (c:CR ks rss) (hu:∀ ls∈rss,Up ks.length 0 ls) (hpc:pp≠pc) {bs:List Bool} {t:D} (pl:PlanD ks rss false bs t):∀ (f:Nat),2*(ks.length - bs.length)+1<=f->bs.length<=ks.length->Put ks rss pp pc bs (nS ks bs.length) ((Zem 6 7 6 13 Zar Zau f).1 [.tup ks,.str "all",.ref pc,.ref pp,t,Zaz bs]):=by
 have h8:=c.h8
 have e12:=Zxl ks
 induction pl with
 | kept h _=>cases h
 | @lost bs i ls h0 h1 h2 h3 =>
  intro f hf hb L H Q g gc hl rt q
  have p2:2<=2 ^ (nS ks bs.length+1):=by rw[Wet]; have:=Nat.one_le_two_pow (n:=nS ks bs.length); omega
  have p3:eS ks*2<=eS ks*2 ^ (nS ks bs.length+1):=Nat.mul_le_mul_left _ p2
  obtain⟨hi,ei⟩:=Xc.mp h1
  have uls:=hu ls (Xu h1)
  obtain⟨f,rfl⟩:∃ f',f=f'+1:=⟨f - 1,by omega⟩
  rw[Zem]
  dsimp only
  generalize (Zem 6 7 6 13 Zar Zau f).1=F1
  generalize (Zem 6 7 6 13 Zar Zau f).2=F2
  refine Zbf rfl ?_
  show wS (Zar _ _ [some (.tup ks),some (.str "all"),some (.ref pc),some (.ref pp),some (.tup [.str "lost",.int i]),some (Zaz bs),none] H) _
  unfold Zar
  fail "i"
  (refine WP.w_if ?_; fail "g")
  refine Yaa rfl gc ?_
  fail "g"
  refine w_end (ks:=ks) hi ?_
  fail "g"
  refine Zlz c g (by omega) rt (.row i hi) (c.hr _ (Wac hi)) fun M e H1 g1 r1 la lm x1=>?_
  fail "g"
  rw[ei] at la
  exact q M e _ H1 g1 r1 la (Lt.leaf uls h2 h3) (by omega) x1
 | @pick bs t x h0 h1 h2 ih =>
  intro f hf hb L H Q g gc hl rt q
  have en:=Ycx h0 h1
  obtain⟨f,rfl⟩:∃ f',f=f'+1:=⟨f - 1,by omega⟩
  have lb:(bs++[t]).length=bs.length+1:=by simp
  have k:=ih f (by rw[lb]; omega) (by omega)
  rw[Zem]
  dsimp only
  generalize (Zem 6 7 6 13 Zar Zau f).1=F1 at k ⊢
  generalize (Zem 6 7 6 13 Zar Zau f).2=F2
  refine Zbf rfl ?_
  show wS (Zar _ _ [some (.tup ks),some (.str "all"),some (.ref pc),some (.ref pp),some (.tup [.str "pick",.bl t,x]),some (Zaz bs),none] H) _
  unfold Zar
  fail "i"
  refine k L H _ g gc (by rw[lb,<- en]; exact hl) rt fun M e r H1 g1 r1 la lt lm x1=>?_
  fail "g"
  rw[lb,<- en] at lm
  exact q M e r H1 g1 r1 la (lt.pick h1) lm x1
 | @each bs x y h0 h1 h2 h3 ih1 ih2 =>
  intro f hf hb L H Q g gc hl rt q
  have lb:∀ t:Bool,(bs++[t]).length=bs.length+1:=fun t=>by simp
  obtain⟨f,rfl⟩:∃ f',f=f'+2:=⟨f - 2,by omega⟩
  have k1:=ih1 f (by rw[lb]; omega) (by rw[lb]; omega)
  have k2:=ih2 f (by rw[lb]; omega) (by rw[lb]; omega)
  rw[lb] at k1 k2
  have k3:=Zum (F2:=(Zem 6 7 6 13 Zar Zau f).2) c hpc h0 (by rw[h1]; rfl) k1 k2
  have e3:(Zem 6 7 6 13 Zar Zau (f+1)).2=Zbd 6 13 (Zau (Zem 6 7 6 13 Zar Zau f).1 (Zem 6 7 6 13 Zar Zau f).2):=by rw[Zem]
  rw[<- e3] at k3
  rw[Zem]
  dsimp only
  generalize (Zem 6 7 6 13 Zar Zau (f+1)).1=F1
  generalize (Zem 6 7 6 13 Zar Zau (f+1)).2=F2 at k3 ⊢
  refine Zbf rfl ?_
  show wS (Zar _ _ [some (.tup ks),some (.str "all"),some (.ref pc),some (.ref pp),some (.tup [.str "each",x,y]),some (Zaz bs),none] H) _
  unfold Zar
  fail "i"
  (refine WP.w_if ?_; fail "g")
  refine k3 L H _ g gc hl rt fun M e r H1 g1 r1 la lt lm x1=>?_
  fail "g"
  exact q M e r H1 g1 r1 la lt lm x1
theorem Ztt {own:Zgc} (ho:Zb7 own H):∀ (L:List (D×List Int)) {R:List D->HD->Prop},R (L.map (·.1)) H->wA (Zef own [] Zxp (Zac 0) (L.map prD) H) R
 | [],R,q=>⟨_,_,by rw[Wde,Zef,if_pos ho]; rfl,q⟩
 | d::L,R,q=>by
  obtain⟨ds,H1,e,q⟩:=Ztt ho L (R:=fun ds H1=>R (d.1::ds) H1) q
  refine⟨d.1::ds,H1,?_,q⟩
  rw[Xq,Zef]
  simp only[prD,two2,Zb]
  rw[if_pos ho]
  show (Option.bind (some (true,H)) _)=_
  simp only[Zb,if_pos]
  show (Option.bind (some (d.1,H)) _)=_
  simp only[Zb]
  rw[e]
  rfl
theorem w_lc2 {it:ItF} {ci:List Nat} {tt:TF} {te:EF} {σ:SD} (h:wI (it σ H) fun xs own H1=>wA (Zef own (Zuo ci σ) tt te xs H1) fun ds H2=>ds.length<=1000000/\Q (.ref H2.length) (H2++[.lst ds])):wE (Ya6 it ci tt te σ H) Q:=by
 obtain⟨xs,own,H1,e1,ds,H2,e2,hl,q⟩:=h
 refine⟨_,_,?_,q⟩
 unfold Ya6
 rw[e1]
 simp only[Zb]
 rw[e2]
 simp only[Zb,mkL]
 rw[if_pos (Zfg hl)]
theorem Zo2 (h8:ks.length<=8):eS ks*2 ^ (nS ks 0+1)<=512:=by
 unfold eS nS
 rw[List.drop_zero]
 have l1:=Waq kS ks
 split
 ·rw[Nat.one_mul]
  exact Waf (Wbv (by omega) (show _<=9 by omega)) (by decide)
 ·rename_i z
  have:(ks.filter kS).length≠ks.length:=fun e=>z (Wab.mpr fun x hx=>(List.length_filter_eq_length_iff.mp e) x hx)
  have:=Wbv (show 0<2 by omega) (show (ks.filter kS).length+1<=8 by omega)
  omega
theorem Zsc (c:CR ks rss) (hu:∀ ls∈rss,Up ks.length 0 ls) (hw:W ks rss ks.length []=false) (gc:H[pc]? = some (.clo "row_paper" "claim" (Zao ks rss)))
  (q:∀ ds p H',mok ks rss [] ds=true->(mad ks rss [] ds).getLast? = some []->ds.length+eS ks<=eS ks*2 ^ (nS ks 0+1)->H'[p]? = some (.lst ds)->H.length<=p->Fm [] H H'->Q (.ref p) H'):wE (Zn3 [Zao ks rss,.str "all",.ref pc] H) Q:=by
 have h8:=c.h8
 refine Zbf rfl ?_
 show wS (Zh5 [some (Zao ks rss),some (.str "all"),some (.ref pc),none,none] H) _
 unfold Zh5
 fail "g"
 refine Zuj ⟨c.hk,hu,c.hl,c.h8⟩ fun t H1 pt x1=>?_
 rw[hw] at pt ⊢
 have gc1:=x1.keep (by simp) gc (fun _ e=>by cases e)
 have lc:=(Xc.mp gc1).1
 fail "i"
 refine Zlk (b:=false) ?_
 fail "g"
 have bd:=Zo2 h8
 refine Ych c hu (by omega) pt 22 (by simp; omega) (by simp) [] _ _ last (appL gc1) (by simp; omega) ⟨rfl,rfl⟩ fun M e r H2 g2 r2 la lt lm x2=>?_
 rw[Wct] at g2 r2
 have er:r=[]:=by
  cases r with
  | nil=>rfl
  | cons l r =>
   have h1:=(lt.wr l (by simp)).1
   have h2:=(Zpf (by omega) lt.up).1.rg l (by simp)
   simp at h1
   omega
 subst er
 fail "g"
 refine w_lc2 ?_
 fail "g"
 refine Ztt (Zok g2) M ?_
 have lm':M.length+eS ks<=eS ks*2 ^ (nS ks 0+1):=lm
 refine⟨by rw[Xk]; omega,?_⟩
 fail "g"
 refine q (M.map (·.1)) _ _ r2.ok ?_ (by rw[Xk]; exact lm) last ?_ ?_
 ·rw[r2.eq,List.getLast?_map,la]; rfl
 ·have a2:=x2.len; have a1:=x1.len; rw[Xl] at a2; omega
 ·exact((x1.trans (Fm.app _)).new x2 (fun q hq _=>by simp at hq; have:=x1.len; omega)).trans (Fm.app _)
theorem Zqr {b:Bool} (c:CR ks rss) (hu:∀ ls∈rss,Up ks.length 0 ls) (hw:W ks rss ks.length []=false) (g0:H[0]? = some (.tab "row_paper" b))
  (q:∀ ds p H',mok ks rss [] ds=true->(mad ks rss [] ds).getLast? = some []->ds.length+eS ks<=eS ks*2 ^ (nS ks 0+1)->H'[p]? = some (.lst ds)->H'[0]? = some (.tab "row_paper" true)->H.length<=p->Fm [0] H H'->Q (.ref p) H'):wE (Zf6 [Zao ks rss] H) Q:=by
 refine Zbf rfl ?_
 show wS (Zds [some (Zao ks rss),none] H) _
 unfold Zds
 refine w_seq ⟨.nx,[some (Zao ks rss),some (.ref H.length)],H.set 0 (.tab "row_paper" true)++[.clo "row_paper" "claim" (Zao ks rss)],?_,?_⟩
 ·unfold sDef
  simp[g0]
 fail "g"
 have gc:(H.set 0 (.tab "row_paper" true)++[.clo "row_paper" "claim" (Zao ks rss)])[H.length]? = some (.clo "row_paper" "claim" (Zao ks rss)):=by
  have:=last (H:=H.set 0 (.tab "row_paper" true)) (o:=.clo "row_paper" "claim" (Zao ks rss))
  rw[List.length_set] at this
  exact this
 refine Zsc c hu hw gc fun ds p H1 ok la ln g1 l1 x1=>?_
 fail "g"
 have X:Fm [0] H (H.set 0 (.tab "row_paper" true)++[.clo "row_paper" "claim" (Zao ks rss)]):=(Fm.set (by simp)).trans (Fm.app _)
 exact q ds p H1 ok la ln g1 (x1.keep (by simp) (appL (Zjl g0)) fun _ e=>by cases e) (by have:=X.len; omega) (X.trans (x1.sub (by simp)))
end
inductive PX (ks:List D) (rss:List (List Int)):List Bool->D->(List Bool->Prop)->Prop
 | kept {bs:List Bool}:bs.length<=ks.length->(∀ ls∈rss,K08.kept bs ls=true)->PX ks rss bs (.tup [.str "kept"]) (fun p=>p.length=ks.length/\p.take bs.length=bs)
 | pick {bs:List Bool} {t:Bool} {x:D} {X:List Bool->Prop}:bs.length<ks.length->kS (ks.getD bs.length .non)=true->PX ks rss (bs++[t]) x X->PX ks rss bs (.tup [.str "pick",.bl t,x]) X
 | each {bs:List Bool} {x y:D} {X Y:List Bool->Prop}:bs.length<ks.length->kS (ks.getD bs.length .non)=false->PX ks rss (bs++[false]) x X->PX ks rss (bs++[true]) y Y->PX ks rss bs (.tup [.str "each",x,y]) (fun p=>X p\/Y p)
section
variable {ks:List D} {rss:List (List Int)} {bs p:List Bool} {t:D} {X:List Bool->Prop}
theorem PX.of (h:PlanD ks rss true bs t):bs.length<=ks.length->∃ X,PX ks rss bs t X:=by
 induction h with
 | kept _ h=>rintro hb; exact⟨_,.kept hb h⟩
 | lost h _ _ _=>cases h
 | pick h0 h1 _ ih=>rintro _; obtain⟨X,hX⟩:=ih (by simp; omega); exact⟨X,.pick h0 h1 hX⟩
 | each h0 h1 _ _ ih1 ih2 =>
  intro _
  obtain⟨X,hX⟩:=ih1 (by simp; omega)
  obtain⟨Y,hY⟩:=ih2 (by simp; omega)
  exact⟨_,.each h0 h1 hX hY⟩
theorem Zdh {b:Bool} (h:p.take (bs++[b]).length=bs++[b]):p.take bs.length=bs:=by
 have:=congrArg (List.take bs.length) h
 rw[Wea,Wfz] at this
 rw[Xl] at this
 rwa [Wdq (by omega)] at this
theorem PX.pre (h:PX ks rss bs t X):∀ {p:List Bool},X p->p.length=ks.length/\p.take bs.length=bs:=by
 induction h with
 | kept _ _=>exact fun x=>x
 | pick _ _ _ ih=>exact fun x=>⟨(ih x).1,Zdh (ih x).2⟩
 | each _ _ _ _ ih1 ih2 =>
  intro p x
  rcases x with x | x
  ·exact⟨(ih1 x).1,Zdh (ih1 x).2⟩
  ·exact⟨(ih2 x).1,Zdh (ih2 x).2⟩
theorem Zz0 {l:Int} (h:p.take bs.length=bs) (hr:rig bs l=true):rig p l=true:=by
 unfold rig at hr ⊢
 cases e:bs[(Zas l - 1).toNat]? with
 | none=>rw[e] at hr; cases hr
 | some b =>
  have hi:=(Xc.mp e).1
  rw[<- h,Wbh hi] at e
  rw[e]
  rw[<- Wbh hi,h] at e
  rw[e] at hr
  exact hr
theorem Zwx {ls:List Int} (h:p.take bs.length=bs) (hk:kept bs ls=true):kept p ls=true:=by
 obtain⟨l,h1,h2⟩:=Was.mp hk
 exact Was.mpr ⟨l,h1,Zz0 h h2⟩
theorem PX.keeps (h:PX ks rss bs t X):∀ {p:List Bool},X p->∀ ls∈rss,K08.kept p ls=true:=by
 induction h with
 | kept _ h=>exact fun x ls hl=>Zwx x.2 (h ls hl)
 | pick _ _ _ ih=>exact ih
 | each _ _ _ _ ih1 ih2 =>
  intro p x
  rcases x with x | x
  ·exact ih1 x
  ·exact ih2 x
nonrec def ext (n m:Nat) (g:Nat->Bool) (p:List Bool):List Bool:=p.take m++(Wcp (n - m)).map fun i=>g (m+i)
theorem Zsv {n m:Nat} {g:Nat->Bool} (h:m<=n) (hp:m<=p.length):(ext n m g p).length=n:=by
 unfold ext
 rw[Xl,Way,Xk,List.length_range]
 omega
theorem Zh0 {n m:Nat} {g:Nat->Bool} (hp:m<=p.length):(ext n m g p).take m=p.take m:=by
 unfold ext
 rw[Wdh (by rw[Way]; omega),Wea,Nat.min_self]
theorem Zyd {n m k:Nat} {g:Nat->Bool} (hp:m<=p.length) (h1:m<=k) (h2:k<n):(ext n m g p)[k]? = some (g k):=by
 unfold ext
 have l:(p.take m).length=m:=by rw[Way]; omega
 rw[Xo (by omega),l,Xp,List.getElem?_range (by omega)]
 show some (g (m+(k - m)))=_
 rw[show m+(k - m)=k by omega]
def Op (ks:List D) (X:List Bool->Prop) (m:Nat) (q:List Bool) (g:Nat->Bool):Prop:=∃ p,X p/\p.take m=q/\∀ k:Nat,m<=k->k<ks.length->Zdv ks ((k:Int)+1)=true->p[k]? = some (g k)
theorem PX.total (h:PX ks rss bs t X) (g:Nat->Bool):Op ks X bs.length bs g:=by
 induction h with
 | @kept bs hb _ =>
  refine⟨ext ks.length bs.length g bs,⟨Zsv hb (Xd _),?_⟩,?_,fun k h1 h2 _=>Zyd (Xd _) h1 h2⟩
  ·rw[Zh0 (Xd _),Wdj]
  ·rw[Zh0 (Xd _),Wdj]
 | @pick bs t x X h0 h1 hX ih =>
  obtain⟨p,x,e,h⟩:=ih
  refine⟨p,x,Zdh e,fun k k1 k2 ho=>h k ?_ k2 ho⟩
  have:k≠bs.length:=fun z=>by
   subst z
   rw[Zxt,h1] at ho
   cases ho
  simp
  omega
 | @each bs x y X Y h0 h1 hX hY ih1 ih2 =>
  have at':∀ {p:List Bool} {b:Bool},p.take (bs++[b]).length=bs++[b]->p[bs.length]? = some b:=fun {p b} e=>by
   have:=congrArg (fun z=>z[bs.length]?) e
   simp only[Xl,Wbm,Wds] at this
   rwa [Wbh (by omega)] at this
  have fin:∀ {p:List Bool} {b:Bool},b=g bs.length->p.take (bs++[b]).length=bs++[b]->(∀ k:Nat,(bs++[b]).length<=k->k<ks.length->Zdv ks ((k:Int)+1)=true->p[k]? = some (g k))->∀ k:Nat,bs.length<=k->k<ks.length->Zdv ks ((k:Int)+1)=true->p[k]? = some (g k):=fun {p b} hb e h k k1 k2 ho=>by
   by_cases z:k=bs.length
   ·subst z; rw[at' e,hb]
   ·exact h k (by simp; omega) k2 ho
  cases eg:g bs.length with
  | false =>
   obtain⟨p,x,e,h⟩:=ih1
   exact⟨p,.inl x,Zdh e,fin eg.symm e h⟩
  | true =>
   obtain⟨p,x,e,h⟩:=ih2
   exact⟨p,.inr x,Zdh e,fin eg.symm e h⟩
theorem PX.open (h:PX ks rss bs t X) (g:Nat->Bool):∀ {p:List Bool} (m:Nat),X p->bs.length<=m->m<=ks.length->Op ks X m (p.take m) g:=by
 have base:∀ {bs:List Bool} {t:D} {X:List Bool->Prop} {p:List Bool},PX ks rss bs t X->X p->Op ks X bs.length (p.take bs.length) g:=fun h x=>by
  rw[(h.pre x).2]
  exact h.total g
 induction h with
 | @kept bs hb hk =>
  intro p m x h1 h2
  have hp:m<=p.length:=by rw[x.1]; exact h2
  refine⟨ext ks.length m g p,⟨Zsv h2 hp,?_⟩,Zh0 hp,fun k k1 k2 _=>Zyd hp k1 k2⟩
  have:=congrArg (List.take bs.length) (Zh0 (n:=ks.length) (g:=g) hp)
  rw[Wea,Wea,Wdq h1,x.2] at this
  exact this
 | @pick bs t x X h0 h1 hX ih =>
  intro p m xp m1 m2
  by_cases e:m=bs.length
  ·subst e; exact base (.pick h0 h1 hX) xp
  ·exact ih m xp (by simp; omega) m2
 | @each bs x y X Y h0 h1 hX hY ih1 ih2 =>
  intro p m xp m1 m2
  by_cases e:m=bs.length
  ·subst e; exact base (.each h0 h1 hX hY) xp
  ·rcases xp with xp | xp
   ·obtain⟨q,a,b,c⟩:=ih1 m xp (by simp; omega) m2
    exact⟨q,.inl a,b,c⟩
   ·obtain⟨q,a,b,c⟩:=ih2 m xp (by simp; omega) m2
    exact⟨q,.inr a,b,c⟩
theorem PX.sound {ds:List D} (hu:∀ ls∈rss,Up ks.length 0 ls) (h:PX ks rss [] t X) (ok:mok ks rss [] ds=true):∀ row∈mad ks rss [] ds,∀ p,X p->K08.kept p row=true:=by
 have ups:=Zu9 hu ds [] (by simp)
 have key:∀ (m:Nat) (row:List Int),(mad ks rss [] ds)[m]? = some row->∀ p,X p->K08.kept p row=true:=by
  intro m
  induction m using Nat.strongRecOn with
  | _ m ih =>
   intro row hrow p xp
   have lm:=Zgg ks rss ds [] ok
   rw[Wav,Wcj] at lm
   have hm:=(Xc.mp hrow).1
   obtain⟨x,hx,es⟩:=Ycl (ks:=ks) (rss:=rss) ok (m:=m) (by omega)
   rw[hrow] at hx
   cases hx
   have lt:((mad ks rss [] ds).take m).length=m:=by rw[Way]; omega
   have get:∀ {i:Nat} (hi:i<((mad ks rss [] ds).take m).length),(mad ks rss [] ds)[i]? = some ((mad ks rss [] ds).take m)[i]/\i<m:=fun {i} hi=>by
    have hi':i<m:=by omega
    refine⟨?_,hi'⟩
    rw[List.getElem_take,Xn (by omega)]
   have lp:=(h.pre xp).1
   generalize ds[m]'(by omega)=dd at es
   have st:=St.of es
   cases st with
   | row i hi=>exact h.keeps xp _ (Wac hi)
   | less i hi =>
    obtain⟨e1,e2⟩:=get hi
    have ihi:=ih i e2 _ e1
    generalize ((mad ks rss [] ds).take m)[i]=r at e1 ihi ⊢
    have ur:=ups r (Xu e1)
    obtain⟨tl,er,ow⟩:=Zcx ks r
    have rr:=(Zpf (by omega) ur).1
    cases tl with
    | nil=>rw[Waa] at er; rw[<- er]; exact ihi p xp
    | cons y0 tl =>
     have r0:=rr.rg y0 (by rw[er]; simp)
     have sep:=Zpz (er ▸ ur)
     have tsep:∀ y∈y0::tl,Zas y0<=Zas y:=fun y hy=>by
      rcases Xh.mp hy with rfl | hy
      ·exact Wck _
      ·have u2:Up ks.length 0 ((Zbm ks r++[y0])++tl):=by rw[Xw]; exact er ▸ ur
       exact Int.le_of_lt (Zpz u2 y0 (by simp) y hy)
     obtain⟨mm,hmm⟩:∃ mm:Nat,Zas y0=(mm:Int)+1:=⟨(Zas y0 - 1).toNat,by omega⟩
     obtain⟨p',xp',tk,own⟩:=h.open (fun k => !decide ((k:Int)+1∈r)) (p:=p) mm xp (Wbb _) (by omega)
     obtain⟨l,hl,rl⟩:=Was.mp (ihi p' xp')
     have lp':=(h.pre xp').1
     rw[er] at hl
     rcases Xv.mp hl with z | z
     ·have a1:=sep l z y0 (by simp)
      have a2:=(rr.rg l (by rw[er]; simp[z])).1
      refine Was.mpr ⟨l,z,?_⟩
      rw[<- Zku (bs:=p) (k:=mm) (by omega) a2,<- tk,Zku (by omega) a2]
      exact rl
     ·exfalso
      have a1:=tsep l z
      have hlr:l∈r:=by rw[er]; exact Xr _ z
      have a2:=rr.rg l hlr
      obtain⟨k,hk⟩:∃ k:Nat,Zas l=(k:Int)+1:=⟨(Zas l - 1).toNat,by omega⟩
      have ok1:Zdv ks ((k:Int)+1)=true:=by
       have:=ow l z
       rw[Zo9] at this ⊢
       rw[hk] at this
       rw[Zev]
       exact this
      have pk:=own k (by omega) (by omega) ok1
      unfold rig at rl
      rw[show (Zas l - 1).toNat=k by omega,pk] at rl
      dsimp only at rl
      have ypos:l=(k:Int)+1\/l = -((k:Int)+1):=by unfold Zas at hk; split at hk<;>omega
      rcases ypos with e | e
      ·rw[decide_eq_true (show (k:Int)+1∈r by rw[<- e]; exact hlr),decide_eq_true (show 0<l by omega)] at rl
       cases rl
      ·have hn:¬ ((k:Int)+1∈r):=fun z=>by
        have:=rr.inj z hlr (by rw[hk,Zev])
        omega
       rw[decide_eq_false hn,decide_eq_false (show ¬ 0<l by omega)] at rl
       cases rl
   | joined i j n x hi hj hn ho e =>
    obtain⟨a1,a2⟩:=get hi
    obtain⟨b1,b2⟩:=get hj
    have ka:=ih i a2 _ a1 p xp
    have kb:=ih j b2 _ b1 p xp
    generalize ((mad ks rss [] ds).take m)[i]=a at ka e a1
    generalize ((mad ks rss [] ds).take m)[j]=b at kb e b1
    unfold Zea at e
    split at e
    ·cases e
    ·split at e
     ·cases e
     ·cases e
      obtain⟨la,ma,ra⟩:=Was.mp ka
      obtain⟨lb,mb,rb⟩:=Was.mp kb
      refine Was.mpr ?_
      have inx:∀ {z:Int},z∈(a.filter fun x=>decide (x≠n))++(b.filter fun x=>decide (x ≠ -n)).filter (fun x=>decide (x∉a.filter fun x=>decide (x≠n)))->rig p z=true->∃ x,x∈Zdb ((a.filter fun x=>decide (x≠n))++(b.filter fun x=>decide (x ≠ -n)).filter (fun x=>decide (x∉a.filter fun x=>decide (x≠n))))/\rig p x=true:=fun {z} hz hr=>⟨z,(Zch _).mem_iff.mpr hz,hr⟩
      by_cases e1:la=n
      ·have rn:rig p (-n)=false:=by
        rw[e1] at ra
        rw[Zto ⟨by unfold Zas; split<;>omega,by unfold Zas; split<;>omega⟩,ra]; rfl
       have e2:lb ≠ -n:=fun z=>by rw[z,rn] at rb; cases rb
       by_cases w:lb∈a.filter fun x=>decide (x≠n)
       ·exact inx (Wba _ w) rb
       ·exact inx (Xr _ (Wad.mpr ⟨Wad.mpr ⟨mb,by simpa using e2⟩,decide_eq_true w⟩)) rb
      ·exact inx (Wba _ (Wad.mpr ⟨ma,by simpa using e1⟩)) ra
 intro row hr p xp
 obtain⟨m,hm⟩:=Wbn.mp hr
 exact key m row hm p xp
theorem Zzk {rss':List (List Int)}:∀ (j:Nat) (bs:List Bool),bs.length+j=ks.length->(∀ p:List Bool,p.length=ks.length/\p.take bs.length=bs->∀ ls∈rss',K08.kept p ls=true)->W ks rss' j bs=true
 | 0,bs,hj,h=>by
  unfold W
  exact Wab.mpr fun ls hl=>h bs ⟨by omega,Wdj⟩ ls hl
 | j+1,bs,hj,h=>by
  unfold W
  rw[Zzk j (bs++[false]) (by simp; omega) fun p x=>h p ⟨x.1,Zdh x.2⟩,Zzk j (bs++[true]) (by simp; omega) fun p x=>h p ⟨x.1,Zdh x.2⟩]
  cases kS (ks.getD bs.length .non)<;>rfl
theorem PX.wins {rss':List (List Int)} (h:PX ks rss bs t X):(∀ p,X p->∀ ls∈rss',K08.kept p ls=true)->W ks rss' (ks.length - bs.length) bs=true:=by
 induction h with
 | @kept bs hb _=>exact fun q=>Zzk _ _ (by omega) q
 | @pick bs t x X h0 h1 hX ih =>
  intro q
  have:=ih q
  obtain⟨j,hj⟩:∃ j,ks.length - bs.length=j+1:=⟨ks.length - bs.length - 1,by omega⟩
  rw[hj]
  rw[show ks.length - (bs++[t]).length=j by simp; omega] at this
  unfold W
  rw[h1]
  cases t with
  | false=>rw[this]; rfl
  | true=>rw[this]; simp
 | @each bs x y X Y h0 h1 hX hY ih1 ih2 =>
  intro q
  have a:=ih1 fun p xp=>q p (.inl xp)
  have b:=ih2 fun p xp=>q p (.inr xp)
  obtain⟨j,hj⟩:∃ j,ks.length - bs.length=j+1:=⟨ks.length - bs.length - 1,by omega⟩
  rw[hj]
  rw[show ks.length - (bs++[false]).length=j by simp; omega] at a
  rw[show ks.length - (bs++[true]).length=j by simp; omega] at b
  unfold W
  rw[a,b,h1]
  rfl
theorem Zs5 {more:List (List Int)}:∀ (j:Nat) (bs:List Bool),W ks (rss++more) j bs=true->W ks rss j bs=true
 | 0,bs,h=>by
  unfold W at h ⊢
  rw[Weu,Wam] at h
  exact h.1
 | j+1,bs,h=>by
  unfold W at h ⊢
  have a:=Zs5 (more:=more) j (bs++[false])
  have b:=Zs5 (more:=more) j (bs++[true])
  generalize W ks (rss++more) j (bs++[false])=u at h a
  generalize W ks (rss++more) j (bs++[true])=v at h b
  cases ew:kS (ks.getD bs.length .non) with
  | true =>
   rw[ew] at h
   cases u with
   | true=>rw[a rfl]; rfl
   | false =>
    cases v with
    | true=>rw[b rfl]; simp
    | false=>cases h
  | false =>
   rw[ew] at h
   cases u with
   | false=>cases h
   | true =>
    cases v with
    | false=>cases h
    | true=>rw[a rfl,b rfl]; rfl
theorem Yc3 {ds:List D} {more:List (List Int)} (c:Cl ks rss) (ok:mok ks rss [] ds=true) (hm:∀ ls∈more,ls∈mad ks rss [] ds):W ks (rss++more) ks.length []=W ks rss ks.length []:=by
 cases e:W ks rss ks.length [] with
 | false =>
  cases e2:W ks (rss++more) ks.length [] with
  | false=>rfl
  | true=>rw[Zs5 _ _ e2] at e; cases e
 | true =>
  have ex:wE (Zmd [Zao ks rss] []) fun _ _=>∃ t,PlanD ks rss true [] t:=Zuj c fun t H' pt _=>by rw[e] at pt; exact⟨t,pt⟩
  obtain⟨_,_,_,t,pt⟩:=ex
  obtain⟨X,hX⟩:=PX.of pt (Wbb _)
  have snd:=hX.sound c.hu ok
  refine hX.wins fun p xp ls hl=>?_
  rcases Xv.mp hl with z | z
  ·exact hX.keeps xp ls z
  ·exact snd ls (hm ls z) p xp
end
variable {σ:SD} {H:HD} {Q:D->HD->Prop}
theorem Zpx {b:Bool} (q:Q (.bl b) H):wE (eqD (Za5 b) (.str "some") H) Q:=by
 refine⟨_,_,Zle b true H,?_⟩
 cases b<;>exact q
def Fu (X:List Bool->Prop) (n:Nat) (f:HD->Option (D×HD)):Prop :=
 ∀ (H:HD) (Q:D->HD->Prop),(∀ (pls:List (List Bool)) (p:Nat) (H':HD),H'[p]? = some (.lst (pls.map Zaz))->(∀ x∈pls,X x)->pls.length<=2 ^ n->Fm [] H H'->Q (.ref p) H')->wE (f H) Q
nonrec abbrev flB (F:FF):SF:=(Zag (Zbg 6 (eOp Zb0 (Zac 6) (Zal 4 F (Zab (Zac 0) (Zab (Zac 1) (Zab (Zac 8) (Zab (eOp Zb0 (Zac 3) (Zdi (Zab (Zac 7) Zaf))) Zaf)))))))
 Zak)
section
variable {ks:List D} {rss:List (List Int)} {bs:List Bool} {x y t:D} {X Y:List Bool->Prop} {F:FF} {n pk:Nat} {z2 z4 z6 z7 z8:Option D}
theorem Ycn {p6:Nat} {R:FD->SD->HD->Prop} (hx:Fu X n (F [Zao ks rss,.str "some",x,Zaz (bs++[false])])) (hy:Fu Y n (F [Zao ks rss,.str "some",y,Zaz (bs++[true])])) (g:H[pk]? = some (.lst [.tup [.bl false,x],.tup [.bl true,y]])) (g6:H[p6]? = some (.lst [])) (hn:n<=8) (hb:bs.length<=8)
  (q:∀ (pls:List (List Bool)) (p:Nat) (H':HD) (z7 z8:Option D),H'[p]? = some (.lst (pls.map Zaz))->(∀ z∈pls,X z\/Y z)->pls.length<=2 ^ (n+1)->Fm [] H H'->R .nx [some (Zao ks rss),some (.str "some"),z2,some (Zaz bs),z4,some (.ref pk),some (.ref p),z7,z8] H') :
  wS (Zfr [(pk,.lst [.tup [.bl false,x],.tup [.bl true,y]])] (gTp 2 (gCn (gNm 7) (gCn (gNm 8) gNl))) (flB F) [.tup [.bl false,x],.tup [.bl true,y]] [some (Zao ks rss),some (.str "some"),z2,some (Zaz bs),z4,some (.ref pk),some (.ref p6),z7,z8] H) R:=by
 have p2:2 ^ n<=256:=Waf (Wbv (by omega) hn) (by decide)
 refine Ze4 (Zok g) ?_
 fail "g"
 refine hx _ _ fun pl1 p1 H1 g1 m1 l1 x1=>?_
 fail "g"
 refine Zoo (x1.lst (by simp) g6) g1 (by simp; omega) ?_
 have X1:=x1.trans (Fm.app (S:=[]) [DO.lst ([]++pl1.map Zaz)])
 fail "g"
 refine Ze4 (Zok (X1.lst (by simp) g)) ?_
 fail "g"
 refine hy _ _ fun pl2 p2 H2 g2 m2 l2 x2=>?_
 fail "g"
 refine Zoo (x2.lst (by simp) last) g2 (by simp; omega) ?_
 have X2:=(X1.trans x2).trans (Fm.app (S:=[]) [DO.lst ([]++pl1.map Zaz++pl2.map Zaz)])
 fail "g"
 refine Zl8 (Zok (X2.lst (by simp) g)) ?_
 refine q (pl1++pl2) _ _ _ _ (by rw[last,Wae]; rfl) (fun z hz=>?_) (by rw[Xl,Wet]; omega) X2
 rcases Xv.mp hz with h | h
 ·exact .inl (m1 z h)
 ·exact .inr (m2 z h)
theorem Zzx (c:CR ks rss):∀ (j:Nat) (bs:List Bool) (f:Nat),bs.length+j=ks.length->j+1<=f->Fu (fun p=>p.length=ks.length/\p.take bs.length=bs) j (Zlg 4 9 Za6 f [Zao ks rss,.str "some",.tup [.str "kept"],Zaz bs]):=by
 intro j
 have h8:=c.h8
 induction j with
 | zero =>
  intro bs f hj hf H Q q
  obtain⟨f,rfl⟩:∃ f',f=f'+1:=⟨f - 1,by omega⟩
  rw[Zlg]
  generalize Zlg 4 9 Za6 f=F
  refine Zbf rfl ?_
  show wS (Za6 F [some (Zao ks rss),some (.str "some"),some (.tup [.str "kept"]),some (Zaz bs),none,none,none,none,none] H) _
  unfold Za6
  have e:bs.length=ks.length:=by omega
  fail "i"
  refine w_bT (by rw[e]; simp) ?_
  fail "g"
  exact q [bs] _ _ last (fun x hx=>by rw[Wcw.mp hx]; exact⟨e,Wdj⟩) (by simp) (Fm.app _)
 | succ j ih =>
  intro bs f hj hf H Q q
  obtain⟨f,rfl⟩:∃ f',f=f'+1:=⟨f - 1,by omega⟩
  have k1:=ih (bs++[false]) f (by simp; omega) (by omega)
  have k2:=ih (bs++[true]) f (by simp; omega) (by omega)
  rw[Zlg]
  generalize Zlg 4 9 Za6 f=F at k1 k2 ⊢
  refine Zbf rfl ?_
  show wS (Za6 F [some (Zao ks rss),some (.str "some"),some (.tup [.str "kept"]),some (Zaz bs),none,none,none,none,none] H) _
  unfold Za6
  fail "i"
  refine w_bF (by simp; omega) ?_
  fail "i"
  refine w_ixT (Zbx (Zf4 c.hk (by omega))) ?_
  fail "g"
  refine Zpx ?_
  fail "g"
  refine⟨fun _=>?_,fun _=>?_⟩
  all_goals
   fail "g"
   (refine WP.w_if ?_; fail "g")
   (refine WP.w_if ?_; fail "g")
   refine Ycn k1 k2 (appL last) last (by omega) (by omega) fun pls p H' _ _ g m l x=>?_
   fail "g"
   exact q pls p H' g (fun z hz=>by rcases m z hz with h | h<;>exact⟨h.1,Zdh h.2⟩) l ((((Fm.app _).trans (Fm.app _)).trans (Fm.app _)).trans x)
theorem Yay (c:CR ks rss) (h:PX ks rss bs t X):∀ f:Nat,ks.length - bs.length+1<=f->Fu X (ks.length - bs.length) (Zlg 4 9 Za6 f [Zao ks rss,.str "some",t,Zaz bs]):=by
 have h8:=c.h8
 induction h with
 | @kept bs hb hk=>exact fun f hf=>Zzx c _ bs f (by omega) hf
 | @pick bs t x X h0 h1 hX ih =>
  intro f hf H Q q
  obtain⟨f,rfl⟩:∃ f',f=f'+1:=⟨f - 1,by omega⟩
  have k:=ih f (by simp; omega)
  rw[Zlg]
  generalize Zlg 4 9 Za6 f=F at k ⊢
  refine Zbf rfl ?_
  show wS (Za6 F [some (Zao ks rss),some (.str "some"),some (.tup [.str "pick",.bl t,x]),some (Zaz bs),none,none,none,none,none] H) _
  unfold Za6
  have sk:=Zf4 c.hk h0
  rw[h1] at sk
  fail "i"
  refine w_bF (by simp; omega) ?_
  fail "i"
  refine w_ixT (Zbx sk) ?_
  fail "g"
  refine Zpx ?_
  fail "g"
  refine k _ _ fun pls p H' g m l x=>?_
  fail "g"
  exact q pls p H' g m (Waf l (Wbv (by omega) (by simp; omega))) x
 | @each bs x y X Y h0 h1 hX hY ih1 ih2 =>
  intro f hf H Q q
  obtain⟨f,rfl⟩:∃ f',f=f'+1:=⟨f - 1,by omega⟩
  have k1:=ih1 f (by simp; omega)
  have k2:=ih2 f (by simp; omega)
  rw[show ks.length - (bs++[false]).length=ks.length - bs.length - 1 by simp; omega] at k1
  rw[show ks.length - (bs++[true]).length=ks.length - bs.length - 1 by simp; omega] at k2
  rw[Zlg]
  generalize Zlg 4 9 Za6 f=F at k1 k2 ⊢
  refine Zbf rfl ?_
  show wS (Za6 F [some (Zao ks rss),some (.str "some"),some (.tup [.str "each",x,y]),some (Zaz bs),none,none,none,none,none] H) _
  unfold Za6
  have sk:=Zf4 c.hk h0
  rw[h1] at sk
  fail "i"
  refine w_bF (by simp; omega) ?_
  fail "i"
  refine w_ixT (Zbx sk) ?_
  fail "g"
  refine Zpx ?_
  fail "g"
  (refine WP.w_if ?_; fail "g")
  refine w_sllo (k:=1) ?_
  fail "g"
  (refine WP.w_if ?_; fail "g")
  refine Ycn k1 k2 (appL last) last (by omega) (by omega) fun pls p H' _ _ g m l x=>?_
  fail "g"
  refine q pls p H' g m ?_ ((((Fm.app _).trans (Fm.app _)).trans (Fm.app _)).trans x)
  rwa [show ks.length - bs.length - 1+1=ks.length - bs.length by omega] at l
end
variable {σ:SD} {H:HD} {Q:D->HD->Prop}
theorem Zu1 {sd:D} {most:Nat} (at':∀ (H:HD) (k:Int) (Q:D->HD->Prop),0<=k->k<=1000->(∀ c,Q (.int c) H)->wE (Zdw [sd,.int k] H) Q) (hm:2<=most/\most<=8) (q:∀ ks rss H',Cl ks rss->ks.length<=most->rss.length<=20->Fm [] H H'->Q (Zao ks rss) H'):wE (Zf0 [sd,.int most] H) Q:=by
 refine Zbf rfl ?_
 show wS (Zdl [some sd,some (.int most),none,none,none,none,none] H) _
 unfold Zdl
 fail "g"
 refine at' _ _ _ (by omega) (by omega) fun c=>?_
 fail "g"
 refine Zh1 (many:=14) (by omega) fun ds pd H1 l1 d1 g1 n1 x1=>?_
 fail "g"
 refine Zdj g1 d1 (by omega) (by omega) fun a a0 a1=>?_
 fail "g"
 refine w_mod (by omega) ?_
 fail "g"
 refine Zdj g1 d1 (by omega) (by omega) fun a' a0' a1'=>?_
 fail "g"
 refine Zdj (appL g1) d1 (by omega) (by omega) fun b b0 b1=>?_
 fail "g"
 have m3:b % 3=0\/b % 3=1\/b % 3=2:=by omega
 obtain⟨N,hN,eN⟩:∃ N:Nat,N<=most/\atI [D.int (a % ((most:Int)+1)),.int ((most:Int) - a' % 3),.int (most:Int)] (b % 3)=some (.int N):=by
  have e1:=Waw a (show (most:Int)+1≠0 by omega)
  have e2:=Wap a (show 0<(most:Int)+1 by omega)
  rcases m3 with z | z | z<;>rw[z]
  ·refine⟨(a % ((most:Int)+1)).toNat,by omega,?_⟩
   rw[Wcb e1]; rfl
  ·refine⟨((most:Int) - a' % 3).toNat,by omega,?_⟩
   rw[Wcb (by omega)]; rfl
  ·exact⟨most,Xd _,rfl⟩
 refine w_ixR last eN ?_
 fail "g"
 refine Zwn (k:=2) (appL g1) ?_
 fail "g"
 rw[show (if (N:Int) > 0 then (N:Int) else 0)=(N:Int) by split<;>omega]
 rw[<- Wcy]
 refine Zzy (many:=N) last (d1.drop 2) (by simp; omega) (by omega) fun ks H2 hk lk x2=>?_
 have X2:Fm [] H H2:=((x1.trans (Fm.app _)).trans (Fm.app _)).trans x2
 have g2:=x2.lst (by simp) (appL (u:=DO.lst ((ds.drop 2).map D.int)) (appL (u:=DO.lst [D.int (a % ((most:Int)+1)),.int ((most:Int) - a' % 3),.int (most:Int)]) g1))
 fail "g"
 refine Zdj g2 d1 (by omega) (by omega) fun u0 u1 u2=>?_
 fail "g"
 refine Zdj g2 d1 (by omega) (by omega) fun v0 v1 v2=>?_
 fail "g"
 refine Zdj g2 d1 (by omega) (by omega) fun y0 y1 y2=>?_
 fail "g"
 refine Zdj (appL g2) d1 (by omega) (by omega) fun e e0 e1=>?_
 fail "g"
 have m3':e % 3=0\/e % 3=1\/e % 3=2:=by omega
 obtain⟨Z,hZ,eZ⟩:∃ Z:Nat,Z<=20/\atI [D.int (u0 % 5),.int (v0 % 11),.int (5+y0 % 16)] (e % 3)=some (.int Z):=by
  rcases m3' with z | z | z<;>rw[z]
  ·refine⟨(u0 % 5).toNat,by omega,?_⟩
   rw[Wcb (by omega)]; rfl
  ·refine⟨(v0 % 11).toNat,by omega,?_⟩
   rw[Wcb (by omega)]; rfl
  ·refine⟨(5+y0 % 16).toNat,by omega,?_⟩
   rw[Wcb (by omega)]; rfl
 refine w_ixR last eZ ?_
 fail "g"
 refine⟨_,rfl,⟨by omega,by omega⟩,?_⟩
 rw[Wag]
 have Y:Fm [] H (H2++[DO.lst [D.int (u0 % 5),.int (v0 % 11),.int (5+y0 % 16)]]):=X2.trans (Fm.app _)
 refine Zs7 (fun d t o H'=>∃ rss:List (List Int),o=rss.map Zay/\rss.length=d.length/\d.length+t.length=Z/\(∀ ls∈rss,Up N 0 ls)/\(∀ x∈t,∃ i:Nat,x=.int i/\i<=100)/\True/\H'[pd]? = some (.lst (ds.map .int))/\Fm [] H H') (fun _ _ _ _ _=>Zh3) (fun d x t o H3 ⟨rss,i1,i2,i3,i4,i5,i6,i7,i8⟩=>?_) _ [] [] _ ⟨[],rfl,rfl,by simp[Zba],by simp,fun x hx=>?_,trivial,appL g2,Y⟩ (fun d o H3 ⟨rss,i1,i2,i3,i4,i5,i6,i7,i8⟩=>?_)
 ·obtain⟨i,rfl,hi⟩:=i5 x (by simp)
  fail "g"
  refine at' _ _ _ (by omega) (by omega) fun cell=>?_
  fail "g"
  rw[lk]
  refine Zyx (by omega) fun ls H4 u x4=>?_
  refine⟨rss++[ls],by rw[i1]; simp,by simp[i2],by simp at i3 ⊢; omega,fun y hy=>?_,fun y hy=>i5 y (by simp[hy]),trivial,x4.lst (by simp) i7,i8.trans x4⟩
  rcases Xv.mp hy with z | z
  ·exact i4 y z
  ·simp at z; subst z; exact u
 ·simp only[Zba,Xx,Wbi] at hx
  obtain⟨k,hk,rfl⟩:=hx
  exact⟨k,by simp,by omega⟩
 rw[Wct] at i1
 simp only[Wav,Wfo] at i3
 subst i1
 refine⟨by simp; omega,?_⟩
 show wS (Zag _ _ [some sd,some (.int most),some (.ref pd),some (.int N),some (.tup ks),some (.int Z),some (.ref H3.length)] (H3++[.lst (rss.map Zay)])) _
 refine w_seq (Zsp (fun σ H'=>∃ (rs:List (List Int)) (pr:Nat),H'[pr]? = some (.lst (rs.map Zay))/\rs.length<=20/\(∀ ls∈rs,Up N 0 ls)/\Fm [] H H'/\σ=[some sd,some (.int most),some (.ref pd),some (.int N),some (.tup ks),some (.int Z),some (.ref pr)]) ?_ ?_)
 ·(refine WP.w_if ?_; fail "g")
  refine Zdj (appL i7) d1 (by omega) (by omega) fun r r0 r1=>?_
  fail "g"
  refine⟨fun h=>?_,fun h=>?_⟩
  ·fail "g"
   refine Zeh (fun d=>match d with | .tup xs => !xs.isEmpty | _=>true) (fun H'=>H'=H3++[.lst (rss.map Zay)]) (fun _ j=>by rw[j]; exact Zok last) _ (fun x hx H4 j=>?_) _ rfl fun H4 j=>?_
   ·obtain⟨ls,hls,rfl⟩:=Xx.mp hx
    subst j
    fail "g"
    refine Zyv (Fine.tup (Zb9 ls)) (Fine.tup (h:=0) Fines.nil) (by omega) (by omega) ?_
    refine⟨_,rfl,?_,rfl⟩
    cases ls<;>simp[Ub,Uu,Zay]
   ·subst j
    have ef:(rss.map Zay).filter (fun d=>match d with | .tup xs => !xs.isEmpty | _=>true)=(rss.filter fun ls => !ls.isEmpty).map Zay:=by
     rw[Wcl]
     congr 1
     exact List.filter_congr fun ls _=>by cases ls<;>rfl
    rw[ef]
    have lf:=Waq (fun ls:List Int => !ls.isEmpty) rss
    refine⟨by simp; omega,?_⟩
    fail "g"
    exact⟨rfl,_,_,last,by omega,fun ls h=>i4 ls (Wad.mp h).1,(i8.trans (Fm.app _)).trans (Fm.app _),rfl⟩
  ·fail "g"
   exact⟨rfl,rss,_,last,by omega,i4,i8.trans (Fm.app _),rfl⟩
 rintro _ H4 ⟨rs,pr,g4,l4,u4,X4,rfl⟩
 fail "g"
 refine q ks rs H4 ⟨hk,fun ls h=>by rw[lk]; exact u4 ls h,by omega,by omega⟩ (by omega) l4 X4
variable {σ:SD} {H:HD} {Q:D->HD->Prop}
theorem CR.of {ks':List D} {rss':List (List Int)} (hk:∀ d∈ks',Zb6 d) (h8:ks'.length<=8) (hu:∀ ls∈rss',Up ks'.length 0 ls) (hl:rss'.length<=1000):CR ks' rss':=⟨hk,h8,fun ls h=>(Zpf (by omega) (hu ls h)).1,hl⟩
theorem Zlc {a b:Bool} (q:Q (.bl (!(a==b))) H):wE (neD (Za5 a) (Za5 b) H) Q:=by
 have e1:(("some" : Str)==("all" : Str))=false:=by decide
 have e2:(("all" : Str)==("some" : Str))=false:=by decide
 cases a<;>cases b
 ·exact w_neS' (by simp) q
 ·exact w_neS' e2 q
 ·exact w_neS' e1 q
 ·exact w_neS' (by simp) q
section
variable {ks:List D} {rss:List (List Int)} {bs:List Bool}
theorem Zy5 {pr:Nat} (g:H[pr]? = some (.lst (rss.map Zay))) (h8:ks.length<=8) (hr:∀ ls∈rss,R ks.length ls) (hb:bs.length=ks.length) (hk:∀ ls∈rss,kept bs ls=true) (q:∀ H',Fm [] H H'->Q (.bl false) H'):wE (Zci [.ref pr,Zaz bs] H) Q:=by
 refine Zbf rfl ?_
 show wS (Zcu [some (.ref pr),some (Zaz bs),none] H) _
 unfold Zcu
 fail "g"
 refine Zi5 (fun σ H'=>Fm [] H H'/\∃ z2,σ=[some (.ref pr),some (Zaz bs),z2]) (fun σ H' i=>Zok (i.1.lst (by simp) g)) _ (fun d hd σ H2 ⟨i4,z2,i5⟩=>?_) _ _ ⟨Fm.refl,_,rfl⟩ fun σ H2 ⟨i4,z2,i5⟩=>?_
 ·subst i5
  obtain⟨row,hrow,rfl⟩:=Xx.mp hd
  have rr:=hr row hrow
  have lr:=rr.len
  fail "i"
  refine⟨row.map .int,[],rfl,?_⟩
  refine Zyg (s:=[]) rr hb ?_
  refine⟨by have:=Waq (rig bs) row; simp at this ⊢; omega,?_⟩
  fail "g"
  refine Ztn (Zb9 (row.filter (rig bs))) (by omega) (appL last) last ?_
  have ee:((row.filter (rig bs)).map D.int).isEmpty=false:=by
   obtain⟨l,h1,h2⟩:=Was.mp (hk row hrow)
   cases w:row.filter (rig bs) with
   | nil=>exact absurd (Wad.mpr ⟨h1,h2⟩) (by rw[w]; simp)
   | cons a b=>rfl
  rw[ee]
  fail "g"
  exact⟨(i4.trans (Fm.app _)).trans (Fm.app _),_,rfl⟩
 ·subst i5
  fail "g"
  exact q _ i4
theorem Ydc (c:Cl ks rss) (q:∀ H',Fm [] H H'->Q (Za5 (W ks rss ks.length [])) H'):wE (Zgk [Zao ks rss,.tup []] H) Q:=by
 obtain⟨H',e,x⟩:=Ztb (bs:=[]) (j:=ks.length) c.hk c.hu c.hl c.h8 (by simp) H
 exact⟨_,_,e,q _ x.fm⟩
theorem Zx3 {p:Nat} {dn:List (List Bool)} {fz:Bool} (g:H[p]? = some (.dic (dn.map (kvD (FW ks rss))) fz)) (hall:∀ b:List Bool,b.length<=ks.length->b∈dn) (q:Q (Za5 (W ks rss ks.length [])) H):wE (Ze1 (.ref p) (.tup []) H) Q:=Zrv (bs:=[]) g (hall [] (Wbb _)) q
end
theorem w_lcl {p:Nat} {xs:List D} {k:Nat} (g:H[p]? = some (.lst xs)) (q:Q (.ref H.length) (H++[.lst (xs.take k)])):wE (slD (.ref p) none (some (k:Int)) H) Q :=
 ⟨_,_,by rw[<- Zxh]; simp only[slD,g],q⟩
theorem pure_law:∀ ns:List Int,ns.length<=63->∃ Hd',Zqf [.fl (ns.map .int)] (Ze8 ["row_paper"])=some (.bl true,Hd'):=by
 intro ns _
 suffices h:wE (Zqf [.fl (ns.map .int)] (Ze8 ["row_paper"])) fun d _=>d=.bl true by
  obtain⟨d,H',e,rfl⟩:=h
  exact⟨H',e⟩
 have g0:(Ze8 ["row_paper"])[0]? = some (.tab "row_paper" false):=rfl
 generalize Ze8 ["row_paper"]=H0 at g0 ⊢
 refine Zbf rfl ?_
 show wS (Zul [some (.fl (ns.map .int)),none,none,none,none,none,none,none] H0) _
 unfold Zul
 fail "g"
 refine Zu1 (most:=6) (fun H k Q h0 h1 q=>Zzp H k Q h0 h1 q) (by omega) fun ks rss H1 c lk lr x1=>?_
 have cr:CR ks rss:=CR.of c.hk c.h8 c.hu c.hl
 have h8:=c.h8
 fail "g"
 refine Zzp _ _ _ (by omega) (by omega) fun cell=>?_
 fail "g"
 refine Zh1 (many:=40) (by omega) fun dg pd H3 l3 d3 g3 n3 x3=>?_
 fail "g"
 refine Zwn (k:=28) g3 ?_
 rw[<- Wcy]
 have X3:=(x1.trans x3).trans (Fm.app (S:=[]) [DO.lst ((dg.drop 28).map .int)])
 have dd:=d3.drop 28
 have ld:(dg.drop 28).length=12:=by rw[Wef,l3]
 have ge:(H3++[DO.lst ((dg.drop 28).map .int)])[H3.length]? = some (.lst ((dg.drop 28).map .int)):=last
 generalize dg.drop 28=es at *
 generalize H3++[DO.lst (es.map .int)]=H4 at X3 ge ⊢
 generalize H3.length=pe at ge ⊢
 fail "g"
 refine Zm2 cr fun pw dn H5 g5 hall l5 x5=>?_
 fail "g"
 refine Zx3 g5 hall ?_
 obtain⟨w,hw⟩:∃ w,W ks rss ks.length []=w:=⟨_,rfl⟩
 rw[hw]
 fail "i"
 refine Ydc c fun H6 x6=>?_
 rw[hw]
 fail "g"
 refine Zlc ?_
 refine⟨_,rfl,w_bF (by cases w<;>rfl) ?_⟩
 have X6:=(X3.trans x5).trans x6
 have ge6:=(x5.trans x6).lst (by simp) ge
 fail "g"
 refine Zdj ge6 dd (by omega) (by omega) fun r r0 r1=>?_
 fail "g"
 obtain⟨mm,hmm⟩:∃ m:Nat,r % 11=m:=⟨(r % 11).toNat,by omega⟩
 rw[hmm]
 refine Zne cr (by omega) (fun H5 k Q _ h0 h1 q=>Zzp H5 k Q h0 h1 q) fun pa ah H7 g7 oka la x7=>?_
 fail "g"
 refine Zo3 cr g7 (by omega) oka fun pr H8 g8 l8 x8=>?_
 have X8:=(X6.trans x7).trans x8
 have ge8:=(x7.trans x8).lst (by simp) ge6
 have t8:=X8.keep (by simp) g0 (fun _ e=>by cases e)
 have lma:=Zgg ks rss ah [] oka
 rw[Wav,Wcj] at lma
 have npe:pe≠0:=fun e=>by rw[e,t8] at ge8; cases ge8
 have npr:pr≠0:=fun e=>by rw[e,t8] at g8; cases g8
 fail "g"
 refine Zsp (fun σ' H'=>∃ ds p,mok ks rss [] ds=true/\ds.length<=600/\H'[p]? = some (.lst ((mad ks rss [] ds).map Zay))/\H'[pe]? = some (.lst (es.map .int))/\σ'=[some (.fl (ns.map .int)),some (Zao ks rss),some (.ref pe),some (Za5 w),some (.ref p),none,none,none]) ?_ ?_
 ·(refine WP.w_if ?_; fail "g")
  refine Zua ?_
  fail "g"
  cases w with
  | true =>
   fail "g"
   exact⟨rfl,ah,pr,oka,by omega,g8,ge8,rfl⟩
  | false =>
   fail "g"
   refine Zqr cr c.hu hw t8 fun ds pt H9 ok lst ln g9 t9 l9 x9=>?_
   have bd:=Zo2 h8
   fail "g"
   refine Zo3 cr g9 (by omega) ok fun pq H10 g10 l10 x10=>?_
   have lmd:=Zgg ks rss ds [] ok
   rw[Wav,Wcj] at lmd
   have gr10:=x10.lst (by simp) (x9.lst (by simpa using npr) g8)
   fail "g"
   refine Zoo gr10 g10 (by simp; omega) ?_
   obtain⟨m1,m2⟩:=Zqp oka ok
   fail "g"
   refine⟨rfl,_,_,m1,by simp; omega,?_,appL (x10.lst (by simp) (x9.lst (by simpa using npe) ge8)),rfl⟩
   rw[m2,Wae]
   exact last
 rintro _ H9 ⟨ds,pr,ok,ln,gr,ge9,rfl⟩
 clear g8 l8 x8 g7 x7 X8 t8 npr ge8
 have lmd:=Zgg ks rss ds [] ok
 rw[Wav,Wcj] at lmd
 have mup:=Zu9 c.hu ds [] (by simp)
 fail "g"
 refine Zdj ge9 dd (by omega) (by omega) fun r2 r20 r21=>?_
 fail "g"
 rw[Xk]
 refine w_mod (by split<;>omega) ?_
 obtain⟨kk,hkk⟩:∃ k:Nat,r2 % (if ((mad ks rss [] ds).length:Int) > 1 then ((mad ks rss [] ds).length:Int) else 1)=k:=⟨(r2 % (if ((mad ks rss [] ds).length:Int) > 1 then ((mad ks rss [] ds).length:Int) else 1)).toNat,by have:=Waw r2 (b:=(if ((mad ks rss [] ds).length:Int) > 1 then ((mad ks rss [] ds).length:Int) else 1)) (by split<;>omega); omega⟩
 rw[hkk]
 fail "g"
 refine Zwn gr ?_
 fail "g"
 refine w_lcl (k:=1) last ?_
 rw[<- Wcy,<- Wfg]
 fail "g"
 have gra:=appL (u:=DO.lst (((mad ks rss [] ds).drop kk).map Zay)) gr
 have grb:=appL (u:=DO.lst ((((mad ks rss [] ds).drop kk).take 1).map Zay)) gra
 have gm:(H9++[DO.lst (((mad ks rss [] ds).drop kk).map Zay)]++[DO.lst ((((mad ks rss [] ds).drop kk).take 1).map Zay)])[(H9++[DO.lst (((mad ks rss [] ds).drop kk).map Zay)]).length]? = some (.lst ((((mad ks rss [] ds).drop kk).take 1).map Zay)):=last
 have sub1:∀ z∈((mad ks rss [] ds).drop kk).take 1,z∈mad ks rss [] ds:=fun z hz=>Wew (List.mem_of_mem_take hz)
 have len1:(((mad ks rss [] ds).drop kk).take 1).length<=1:=by rw[Way]; omega
 generalize ((mad ks rss [] ds).drop kk).take 1=one at *
 generalize H9++[DO.lst (((mad ks rss [] ds).drop kk).map Zay)]++[DO.lst (one.map Zay)]=HA at gm grb ⊢
 generalize (H9++[DO.lst (((mad ks rss [] ds).drop kk).map Zay)]).length=pm at gm ⊢
 refine Zi5 (fun σ H'=>Fm [] (HA++[.lst [.ref pm,.ref pr]]) H'/\∃ z5 z6,σ=[some (.fl (ns.map .int)),some (Zao ks rss),some (.ref pe),some (Za5 w),some (.ref pr),z5,z6,none]) (fun σ H' i=>Zok (i.1.lst (by simp) last)) _ (fun d hd σ HB ⟨i1,z5,z6,i3⟩=>?_) _ _ ⟨Fm.refl,_,_,rfl⟩ fun σ HB ⟨i1,z5,z6,i3⟩=>?_
 ·subst i3
  obtain⟨pp,ms,rfl,gp,hsub,lms⟩:∃ (pp:Nat) (ms:List (List Int)),d=.ref pp/\HB[pp]? = some (.lst (ms.map Zay))/\(∀ z∈ms,z∈mad ks rss [] ds)/\ms.length<=600:=by
   simp only[Xh,Wbs,or_false] at hd
   rcases hd with rfl | rfl
   ·exact⟨_,one,rfl,i1.lst (by simp) (appL gm),sub1,by omega⟩
   ·exact⟨_,_,rfl,i1.lst (by simp) (appL grb),fun z h=>h,by omega⟩
  have hu2:∀ ls∈rss++ms,Up ks.length 0 ls:=fun ls h=>by
   rcases Xv.mp h with h | h
   ·exact c.hu ls h
   ·exact mup ls (hsub ls h)
  have c2:Cl ks (rss++ms):=⟨c.hk,hu2,by simp; omega,h8⟩
  have w2:=Yc3 c ok hsub
  rw[hw] at w2
  fail "g"
  rw[<- Wae]
  (refine WP.w_if ?_; fail "g")
  refine Ydc (rss:=rss++ms) c2 fun HC xC=>?_
  rw[w2]
  fail "g"
  refine Zlc ?_
  refine⟨_,rfl,w_bF (by cases w<;>rfl) ?_⟩
  fail "g"
  refine Zm2 (rss:=rss++ms) (CR.of c2.hk c2.h8 c2.hu c2.hl) fun pw dn HD gD hall lD xD=>?_
  fail "g"
  refine Zx3 gD hall ?_
  rw[w2]
  fail "g"
  refine Zlc ?_
  refine⟨_,rfl,w_bF (by cases w<;>rfl) ?_⟩
  fail "g"
  exact⟨(i1.trans xC).trans xD,_,_,rfl⟩
 ·subst i3
  have grB:=i1.lst (by simp) (appL grb)
  fail "i"
  refine Zpx ?_
  fail "g"
  cases w with
  | false =>
   fail "g"
   rfl
  | true =>
   fail "g"
   refine Zuj c fun t HC pt xC=>?_
   rw[hw] at pt ⊢
   obtain⟨X,hX⟩:=PX.of pt (Wbb _)
   have snd:=hX.sound c.hu ok
   fail "g"
   refine Yay cr hX 10 (by simp; omega) _ _ fun pls pf HD gD mD lD xD=>?_
   fail "g"
   refine Zi5 (fun σ H'=>Fm [] HD H'/\∃ z7,σ=[some (.fl (ns.map .int)),some (Zao ks rss),some (.ref pe),some (Za5 true),some (.ref pr),z5,z6,z7]) (fun σ H' i=>Zok (i.1.lst (by simp) gD)) _ (fun d hd σ HE ⟨i1,z7,i3⟩=>?_) _ _ ⟨Fm.refl,_,rfl⟩ fun σ HE ⟨i1,z7,i3⟩=>?_
   ·subst i3
    obtain⟨p,hp,rfl⟩:=Xx.mp hd
    have xp:=mD p hp
    fail "i"
    refine Zy5 (ks:=ks) (i1.lst (by simp) (xD.lst (by simp) (xC.lst (by simp) grB))) h8 (fun ls h=>(Zpf (by omega) (mup ls h)).1) (hX.pre xp).1 (fun ls h=>snd ls h p xp) fun HF xF=>?_
    fail "g"
    exact⟨i1.trans xF,_,rfl⟩
   ·subst i3
    fail "g"
    rfl
end K08
set_option maxHeartbeats 8000000
namespace K08
open PySem PySem.Spec PyProof.Rows L2 DL
nonrec def top (i:Nat):Uae:=PySem.Challenge.pw_allsome_k28_whole_rows_put_to_the_claim.main.body.getD i (.Pass ⟨0,0,0,0⟩)
nonrec abbrev s_is_whole:Uae:=top 2
theorem Znw:FnScope ["thing"] ["thing"] (Zad s_is_whole):=⟨rfl,rfl,rfl,by decide +kernel,rfl,by decide +kernel,by decide +kernel⟩
nonrec abbrev s_first_numbers:Uae:=top 8
theorem Zez:FnScope ["rows","told","number","row"] ["rows"] (Zad s_first_numbers):=⟨rfl,rfl,rfl,by decide +kernel,rfl,by decide +kernel,by decide +kernel⟩
nonrec abbrev s_rows_behind:Uae:=top 9
theorem Zfu:FnScope ["rows","name","truth","right","told","row","first"] ["rows","name","truth"] (Zad s_rows_behind):=⟨rfl,rfl,rfl,by decide +kernel,rfl,by decide +kernel,by decide +kernel⟩
nonrec abbrev s_rows_behind_play:Uae:=top 10
theorem Zdu:FnScope ["rows","play","told","name","truth"] ["rows","play"] (Zad s_rows_behind_play):=⟨rfl,rfl,rfl,by decide +kernel,rfl,by decide +kernel,by decide +kernel⟩
nonrec abbrev s_other_side:Uae:=top 11
theorem Zkk:FnScope ["side"] ["side"] (Zad s_other_side):=⟨rfl,rfl,rfl,by decide +kernel,rfl,by decide +kernel,by decide +kernel⟩
nonrec abbrev s_winner_behind:Uae:=top 12
theorem Zdc:FnScope ["kinds","rows","many","who","truth"] ["kinds","rows","many"] (Zad s_winner_behind):=⟨rfl,rfl,rfl,by decide +kernel,rfl,by decide +kernel,by decide +kernel⟩
nonrec abbrev s_winner:Uae:=top 13
theorem Zs4:FnScope ["claim","play"] ["claim","play"] (Zad s_winner):=⟨rfl,rfl,rfl,by decide +kernel,rfl,by decide +kernel,by decide +kernel⟩
nonrec abbrev s_are_of_all:Uae:=top 15
theorem Zk1:FnScope ["kinds","literals"] ["kinds","literals"] (Zad s_are_of_all):=⟨rfl,rfl,rfl,by decide +kernel,rfl,by decide +kernel,by decide +kernel⟩
nonrec abbrev s_number_of_lost:Uae:=top 16
theorem Zei:FnScope ["kinds","rows","row"] ["kinds","rows"] (Zad s_number_of_lost):=⟨rfl,rfl,rfl,by decide +kernel,rfl,by decide +kernel,by decide +kernel⟩
nonrec abbrev s_is_number_of:Uae:=top 21
theorem Zjc:FnScope ["thing","many"] ["thing","many"] (Zad s_is_number_of):=⟨rfl,rfl,rfl,by decide +kernel,rfl,by decide +kernel,by decide +kernel⟩
nonrec abbrev s_is_name_of_other:Uae:=top 22
theorem Zf8:FnScope ["kinds","side","thing"] ["kinds","side","thing"] (Zad s_is_name_of_other):=⟨rfl,rfl,rfl,by decide +kernel,rfl,by decide +kernel,by decide +kernel⟩
nonrec abbrev s_lessened:Uae:=top 23
theorem Zf5:FnScope ["kinds","side","row","stays"] ["kinds","side","row"] (Zad s_lessened):=⟨rfl,rfl,rfl,by decide +kernel,rfl,by decide +kernel,by decide +kernel⟩
nonrec abbrev s_without:Uae:=top 24
theorem Zqj:FnScope ["row","literal"] ["row","literal"] (Zad s_without):=⟨rfl,rfl,rfl,by decide +kernel,rfl,by decide +kernel,by decide +kernel⟩
nonrec abbrev s_both:Uae:=top 25
theorem Zol:FnScope ["one","other","told","literal"] ["one","other"] (Zad s_both):=⟨rfl,rfl,rfl,by decide +kernel,rfl,by decide +kernel,by decide +kernel⟩
nonrec abbrev s_joined:Uae:=top 26
theorem Zt6:FnScope ["one","other","name"] ["one","other","name"] (Zad s_joined):=⟨rfl,rfl,rfl,by decide +kernel,rfl,by decide +kernel,by decide +kernel⟩
nonrec abbrev s_made_by_less:Uae:=top 27
theorem Zig:FnScope ["kinds","side","made","step"] ["kinds","side","made","step"] (Zad s_made_by_less):=⟨rfl,rfl,rfl,by decide +kernel,rfl,by decide +kernel,by decide +kernel⟩
nonrec abbrev s_made_by_joined:Uae:=top 28
theorem Zhe:FnScope ["kinds","side","made","step"] ["kinds","side","made","step"] (Zad s_made_by_joined):=⟨rfl,rfl,rfl,by decide +kernel,rfl,by decide +kernel,by decide +kernel⟩
nonrec abbrev s_put_step:Uae:=top 31
theorem Zi4:FnScope ["kinds","side","pairs","step","row","less"] ["kinds","side","pairs","step","row"] (Zad s_put_step):=⟨rfl,rfl,rfl,by decide +kernel,rfl,by decide +kernel,by decide +kernel⟩
nonrec abbrev s_claims_row:Uae:=top 36
theorem Zk8:FnScope ["claim","step"] ["claim","step"] (Zad s_claims_row):=⟨rfl,rfl,rfl,by decide +kernel,rfl,by decide +kernel,by decide +kernel⟩
nonrec abbrev s_made_by:Uae:=top 29
theorem Zra:FnScope ["claim","side","first","made","step"] ["claim","side","first","made","step"] (Zad s_made_by):=⟨rfl,rfl,rfl,by decide +kernel,rfl,by decide +kernel,by decide +kernel⟩
nonrec abbrev s_all_made:Uae:=top 30
theorem Zjf:FnScope ["claim","side","first","steps","made","number","step","row"] ["claim","side","first","steps"] (Zad s_all_made):=⟨rfl,rfl,rfl,by decide +kernel,rfl,by decide +kernel,by decide +kernel⟩
nonrec abbrev s_rows_of:Uae:=top 37
theorem Zqq:FnScope ["claim","steps"] ["claim","steps"] (Zad s_rows_of):=⟨rfl,rfl,rfl,by decide +kernel,rfl,by decide +kernel,by decide +kernel⟩
nonrec abbrev s_law_mix:Uae:=top 40
theorem Zj3:FnScope ["cell","k","prime","one"] ["cell","k"] (Zad s_law_mix):=⟨rfl,rfl,rfl,by decide +kernel,rfl,by decide +kernel,by decide +kernel⟩
nonrec abbrev s_law_digits:Uae:=top 41
theorem Zgm:FnScope ["cell","many","found","left_over","wide","k"] ["cell","many"] (Zad s_law_digits):=⟨rfl,rfl,rfl,by decide +kernel,rfl,by decide +kernel,by decide +kernel⟩
nonrec abbrev s_law_at:Uae:=top 42
theorem Zrr:FnScope ["script","k"] ["script","k"] (Zad s_law_at):=⟨rfl,rfl,rfl,by decide +kernel,rfl,by decide +kernel,by decide +kernel⟩
nonrec abbrev s_law_kinds:Uae:=top 43
theorem Zhm:FnScope ["some","many","found","k","kind"] ["some","many"] (Zad s_law_kinds):=⟨rfl,rfl,rfl,by decide +kernel,rfl,by decide +kernel,by decide +kernel⟩
nonrec abbrev s_law_row:Uae:=top 44
theorem Zj9:FnScope ["cell","many","wide","some","found","k"] ["cell","many","wide"] (Zad s_law_row):=⟨rfl,rfl,rfl,by decide +kernel,rfl,by decide +kernel,by decide +kernel⟩
nonrec abbrev s_law_claim:Uae:=top 45
theorem Zhg:FnScope ["script","most","some","many","kinds","size","rows"] ["script","most"] (Zad s_law_claim):=⟨rfl,rfl,rfl,by decide +kernel,rfl,by decide +kernel,by decide +kernel⟩
nonrec abbrev s_law_right:Uae:=top 46
theorem Zmg:FnScope ["literal","play"] ["literal","play"] (Zad s_law_right):=⟨rfl,rfl,rfl,by decide +kernel,rfl,by decide +kernel,by decide +kernel⟩
nonrec abbrev s_law_plays:Uae:=top 47
theorem Zhn:FnScope ["many","found","turn","more_plays","one"] ["many"] (Zad s_law_plays):=⟨rfl,rfl,rfl,by decide +kernel,rfl,by decide +kernel,by decide +kernel⟩
nonrec abbrev s_law_lost:Uae:=top 48
theorem Zi7:FnScope ["rows","play","row"] ["rows","play"] (Zad s_law_lost):=⟨rfl,rfl,rfl,by decide +kernel,rfl,by decide +kernel,by decide +kernel⟩
nonrec abbrev s_law_winners:Uae:=top 49
theorem Zfp:FnScope ["claim","found","play","many","kinds","rows","both_v","other"] ["claim"] (Zad s_law_winners):=⟨rfl,rfl,rfl,by decide +kernel,rfl,by decide +kernel,by decide +kernel⟩
nonrec abbrev s_law_whole:Uae:=top 50
theorem Zni:FnScope ["thing","bound"] ["thing","bound"] (Zad s_law_whole):=⟨rfl,rfl,rfl,by decide +kernel,rfl,by decide +kernel,by decide +kernel⟩
nonrec abbrev s_law_less:Uae:=top 51
theorem Ziv:FnScope ["kinds","side","row","found","k","literal","behind"] ["kinds","side","row"] (Zad s_law_less):=⟨rfl,rfl,rfl,by decide +kernel,rfl,by decide +kernel,by decide +kernel⟩
nonrec abbrev s_law_joined:Uae:=top 52
theorem Zeo:FnScope ["row","other","name","found","one"] ["row","other","name"] (Zad s_law_joined):=⟨rfl,rfl,rfl,by decide +kernel,rfl,by decide +kernel,by decide +kernel⟩
nonrec abbrev s_law_first:Uae:=top 54
theorem Zmi:FnScope ["claim","side","thing","last","literal","row"] ["claim","side","thing"] (Zad s_law_first):=⟨rfl,rfl,rfl,by decide +kernel,rfl,by decide +kernel,by decide +kernel⟩
nonrec abbrev s_law_step:Uae:=top 53
theorem Zh8:FnScope ["claim","side","made","step","names"] ["claim","side","made","step"] (Zad s_law_step):=⟨rfl,rfl,rfl,by decide +kernel,rfl,by decide +kernel,by decide +kernel⟩
nonrec abbrev s_law_drawn_step:Uae:=top 57
theorem Zeb:FnScope ["claim","side","made","kept","some","names","turn","i","j","name"] ["claim","side","made","kept","some"] (Zad s_law_drawn_step):=⟨rfl,rfl,rfl,by decide +kernel,rfl,by decide +kernel,by decide +kernel⟩
nonrec abbrev s_law_drawn_steps:Uae:=top 58
theorem Zd0:FnScope ["claim","side","script","at","many","steps","made","kept","k","some","step"] ["claim","side","script","at","many"] (Zad s_law_drawn_steps):=⟨rfl,rfl,rfl,by decide +kernel,rfl,by decide +kernel,by decide +kernel⟩
nonrec abbrev s_law_full:Uae:=top 59
theorem Zi9:FnScope ["claim","side","tree","play","both_v","picks","found","truth","rest"] ["claim","side","tree","play"] (Zad s_law_full):=⟨rfl,rfl,rfl,by decide +kernel,rfl,by decide +kernel,by decide +kernel⟩
nonrec abbrev s_plan_behind:Uae:=top 17
theorem Zfq:FnScope ["kinds","rows","many","number"] ["kinds","rows","many"] (Zad s_plan_behind):=⟨rfl,rfl,rfl,by decide +kernel,rfl,by decide +kernel,by decide +kernel⟩
nonrec abbrev s_plan_by_picks:Uae:=top 18
theorem Zbu:FnScope ["kinds","rows","many","who","trees","truth","told"] ["kinds","rows","many"] (Zad s_plan_by_picks):=⟨rfl,rfl,rfl,by decide +kernel,rfl,by decide +kernel,by decide +kernel⟩
nonrec abbrev s_plan:Uae:=top 19
theorem Yag:FnScope ["claim"] ["claim"] (Zad s_plan):=⟨rfl,rfl,rfl,by decide +kernel,rfl,by decide +kernel,by decide +kernel⟩
nonrec abbrev s_put_tree:Uae:=top 32
theorem Zh7:FnScope ["kinds","side","end","pairs","tree","play","told"] ["kinds","side","end","pairs","tree","play"] (Zad s_put_tree):=⟨rfl,rfl,rfl,by decide +kernel,rfl,by decide +kernel,by decide +kernel⟩
nonrec abbrev s_put_each:Uae:=top 33
theorem Zb5:FnScope ["kinds","side","end","pairs","tree","play","name","numbers","one","other","truth","branch","row"] ["kinds","side","end","pairs","tree","play"] (Zad s_put_each):=⟨rfl,rfl,rfl,by decide +kernel,rfl,by decide +kernel,by decide +kernel⟩
nonrec abbrev s_paper:Uae:=top 34
theorem Zk4:FnScope ["claim","side","end","told","pairs"] ["claim","side","end"] (Zad s_paper):=⟨rfl,rfl,rfl,by decide +kernel,rfl,by decide +kernel,by decide +kernel⟩
nonrec abbrev s_row_paper:Uae:=top 38
theorem Zhi:FnScope ["claim","end"] ["claim"] (Zad s_row_paper):=⟨rfl,rfl,rfl,by decide +kernel,rfl,by decide +kernel,by decide +kernel⟩
nonrec abbrev s_law:Uae:=top 60
theorem Zxw:FnScope ["script","claim","some","due","rows","more","other","play"] ["script"] (Zad s_law):=⟨rfl,rfl,rfl,by decide +kernel,rfl,by decide +kernel,by decide +kernel⟩
nonrec abbrev Zfc:Uae:=(Za7 s_row_paper).getD 0 (.Pass ⟨0,0,0,0⟩)
theorem Zht:ClScope ["tree","play","claim"] ["tree","play"] "claim" (Zad Zfc):=⟨rfl,rfl,rfl,by decide +kernel,rfl,by decide +kernel,by decide +kernel,rfl,by decide +kernel⟩
structure Top (K:Xb) (mg:Str->Option Vb):Prop where
 t_is_whole:Tf K mg "is_whole" K08.s_is_whole
 t_first_numbers:Tf K mg "first_numbers" K08.s_first_numbers
 t_rows_behind:Tf K mg "rows_behind" K08.s_rows_behind
 t_rows_behind_play:Tf K mg "rows_behind_play" K08.s_rows_behind_play
 t_other_side:Tf K mg "other_side" K08.s_other_side
 t_winner_behind:Tf K mg "winner_behind" K08.s_winner_behind
 t_winner:Tf K mg "winner" K08.s_winner
 t_are_of_all:Tf K mg "are_of_all" K08.s_are_of_all
 t_number_of_lost:Tf K mg "number_of_lost" K08.s_number_of_lost
 t_is_number_of:Tf K mg "is_number_of" K08.s_is_number_of
 t_is_name_of_other:Tf K mg "is_name_of_other" K08.s_is_name_of_other
 t_lessened:Tf K mg "lessened" K08.s_lessened
 t_without:Tf K mg "without" K08.s_without
 t_both:Tf K mg "both" K08.s_both
 t_joined:Tf K mg "joined" K08.s_joined
 t_made_by_less:Tf K mg "made_by_less" K08.s_made_by_less
 t_made_by_joined:Tf K mg "made_by_joined" K08.s_made_by_joined
 t_put_step:Tf K mg "put_step" K08.s_put_step
 t_claims_row:Tf K mg "claims_row" K08.s_claims_row
 t_made_by:Tf K mg "made_by" K08.s_made_by
 t_all_made:Tf K mg "all_made" K08.s_all_made
 t_rows_of:Tf K mg "rows_of" K08.s_rows_of
 t_law_mix:Tf K mg "_law_mix" K08.s_law_mix
 t_law_digits:Tf K mg "_law_digits" K08.s_law_digits
 t_law_at:Tf K mg "_law_at" K08.s_law_at
 t_law_kinds:Tf K mg "_law_kinds" K08.s_law_kinds
 t_law_row:Tf K mg "_law_row" K08.s_law_row
 t_law_claim:Tf K mg "_law_claim" K08.s_law_claim
 t_law_right:Tf K mg "_law_right" K08.s_law_right
 t_law_plays:Tf K mg "_law_plays" K08.s_law_plays
 t_law_lost:Tf K mg "_law_lost" K08.s_law_lost
 t_law_winners:Tf K mg "_law_winners" K08.s_law_winners
 t_law_whole:Tf K mg "_law_whole" K08.s_law_whole
 t_law_less:Tf K mg "_law_less" K08.s_law_less
 t_law_joined:Tf K mg "_law_joined" K08.s_law_joined
 t_law_first:Tf K mg "_law_first" K08.s_law_first
 t_law_step:Tf K mg "_law_step" K08.s_law_step
 t_law_drawn_step:Tf K mg "_law_drawn_step" K08.s_law_drawn_step
 t_law_drawn_steps:Tf K mg "_law_drawn_steps" K08.s_law_drawn_steps
 t_law_full:Tf K mg "_law_full" K08.s_law_full
 t_plan_behind:Tf K mg "plan_behind" K08.s_plan_behind
 t_plan_by_picks:Tf K mg "plan_by_picks" K08.s_plan_by_picks
 t_plan:Tf K mg "plan" K08.s_plan
 t_put_tree:Tf K mg "put_tree" K08.s_put_tree
 t_put_each:Tf K mg "put_each" K08.s_put_each
 t_paper:Tf K mg "paper" K08.s_paper
 t_row_paper:Tn K mg "row_paper" K08.s_row_paper
 t_law:Tf K mg "law" K08.s_law
 n_abs:mg "abs" = none
 n_all:mg "all" = none
 n_bool:mg "bool" = none
 n_enumerate:mg "enumerate" = none
 n_int:mg "int" = none
 n_isinstance:mg "isinstance" = none
 n_len:mg "len" = none
 n_list:mg "list" = none
 n_max:mg "max" = none
 n_range:mg "range" = none
 n_sorted:mg "sorted" = none
 n_str:mg "str" = none
 n_tuple:mg "tuple" = none
 n_zip:mg "zip" = none
 c_TRUTHS:Gc K mg "TRUTHS" k_TRUTHS
 v_claims_row:Fv K mg "claims_row"
section
variable {P:Vh} {w:Vu} {K:Xb} {mg:Str->Option Vb} {base:Vz}
local macro_rules | `(tactic| fail $s:str)=>do
 if s.getString.take 1 != "~" then Lean.Macro.throwUnsupported
 let mut o:Array (Lean.TSyntax `tactic) := #[]
 let ls:=("a=Q _;b=R Zav ? ? ?;c=E Za3;d=R Zaj ? Za9;e=R Zaj ? ?;g=E nd;h=R Zgf ? ? Za9;i=E ( Zaa ( pv 0 ) );j=R Zbo ?;k=R Zca Zis ? T.n_len Zm1 ?;l=E ( Zaa ( pv 1 ) );m=E Zaw ixf ( Zaa ( pv 0 ) ) Zae @f;n=E ( Zaa ( pv 2 ) );o=E ( Zaa ( pv 3 ) );p=R Zos Tbd ? ? ? ?;q=I _;r=E Zaw ixf ( Zaa ( pv 3 ) ) Zae @f;s=E ( Zaa ( pv 4 ) );t=E Zbe;u=R Zon ?;v=R Zat Zfv ? Zae;w=R PWf.pt ?;x=R Zc0 ?;y=E Zae;z=R Zaw ixf ? ? @f;A=E Zaw ixf ( Zaa ( pv 2 ) ) Zae @f;B=E Zbo Zid;C=R Zes ?;F=R Za8 @i3 ? ? ? ?;G=E Zon Za3;H=R Ybm ? ?;I=R Za8 @i4 ? ? ? ?;J=R Zzz ?;K=E Zc0 Za3;L=R Zux ? ?;M=E Zaw ixf ( Zaa ( pv 4 ) ) Zae @f;N=R Zam ( Zco hr.units ) ? Zae ( Za1 _ );O=R Zcz ?;P=R Zp2 ?;Q=R Zy7 ?;R=E Zaw ixf ( Zaa ( pv 1 ) ) Zae @f;S=R Zrb ? T.n_range ?;T=E Zgj Zae;U=R Za8 @i2 ? ? ? ?;V=R Zat Zf2 ? Zae;W=R Zhb Zn1 ? T.n_tuple Zk6 ?;X=R Zv2 ?;Y=R Zca Zui ? T.n_isinstance Zkq ?;Z=R Zbz @i5 ? ? ?;0=E ( Zaa ( pv 5 ) );1=R Zaw ixf ( Zaa ( pv 2 ) ) ? @f;2=R Zam ( Zco hr.units ) ? Zbe ( Za1 _ );3=R Zat Zfv ? ?;4=R Yah ? ?;5=R Zsi ? ?;6=R Zgr ? ?;7=R Zbz @i2 ? ? ?;8=R Zgr ? Zpc;9=R Za8 @i6 ? ? ? ?;aa=R Zbz @i4 ? ? ?;ab=R Zca Zs6 ? T.n_abs Zsd ?;ac=R Zir Ug Uh Zcw ( Zaa ( pv 2 ) ) ?;ad=E ( Zaa ( pv 6 ) );ae=E ( Zaa ( pv 7 ) );af=R Zat Zbb ? ?;ag=R Zhb Zuk ? T.n_int Zuu ?;ah=E Zo6;ai=E Zbo Zo6;aj=R Zbz @i3 ? ? ?;ak=E Zat Zbb ( Zaa ( pv 1 ) ) Zae;al=R Zat Zbb ? Zae;am=R Zaw ixf ( Zaa ( pv 0 ) ) ? @f;an=R Zan ( ok_is_number_of T ) ( hr.mono @d ) ? ?;ao=R Za8 @i5 ? ? ? ?;ap=R Zat Zbb ( Zaa ( pv 3 ) ) ?;aq=R Zan ( ok_law_digits T ) ( hr.mono @d ) ? ?;ar=R Zan ( ok_law_at T ) ( hr.mono @d ) ? ?;as=R Zam ( Zco hr.units ) ? ? ( Za1 _ );at=R Zam ( Zd9 hr.units ) ? ( Zaa ( pv 2 ) ) ( Za1 _ );au=R Zan ( ok_law_whole T ) ( hr.mono @d ) ? ?;av=R Zan G ( hr.mono ( Xd _ ) ) ? ?;aw=R Zaw ixf ( Zaa ( pv 1 ) ) ? @f;ax=R Zam ( Zco hr.units ) ? ( Zaa ( pv 1 ) ) ( Za1 _ );ay=R Zam ( Zd9 hr.units ) ? Zae ( Za1 _ );az=E Zat Zhc Zae ( Zaa ( pv 1 ) );aA=R Zat Zbb ( Zaa ( pv 2 ) ) ?;aB=R Zcq ( Zaa ( pv 2 ) ) ? Zd1;aC=R Zat Zbb ( Zaa ( pv 4 ) ) ?;aD=R Zan ( ok_law_plays T ) ( hr.mono @d ) ? ?;aE=R Zan ( ok_law_lost T ) ( hr.mono @d ) ? ?;aF=E Zaw ixf ( Zaa ( pv 4 ) ) ( Zaa ( pv 3 ) ) @f;aG=R Zam ( Zd9 hr.units ) ? ( Zaa ( pv 3 ) ) ( Za1 _ );aH=R Zib Zpb Zmy Zae ( Zaa ( pv 0 ) ) ( Zaa ( pv 1 ) ) ?" : String).splitOn ";"
 for w in (s.getString.drop 1).toString.splitOn " " do
  if w == "f" then o:=o.push (<- `(tactic| first | exact Tba rfl | exact Tau rfl)); continue
  if w == "D" then o:=o.push (<- `(tactic| refine Zgi ?_ (fun _=>rfl))); continue
  if w == "E" then o:=o.push (<- `(tactic| with_unfolding_all rfl)); continue
  if w == "U1" then o:=o.push (<- `(tactic| (intro _ _ _ _ _ _ us hl; obtain⟨_,e⟩:=us1 hl; subst e; rfl))); continue
  if w == "U2" then o:=o.push (<- `(tactic| (intro _ _ _ _ _ _ us hl; obtain⟨_,_,e⟩:=us2 hl; subst e; rfl))); continue
  if w == "U3" then o:=o.push (<- `(tactic| (intro _ _ _ _ _ _ us hl; obtain⟨_,_,_,e⟩:=us3 hl; subst e; rfl))); continue
  if w == "U4" then o:=o.push (<- `(tactic| (intro _ _ _ _ _ _ us hl; obtain⟨_,_,_,_,e⟩:=us4 hl; subst e; rfl))); continue
  if w == "U5" then o:=o.push (<- `(tactic| (intro _ _ _ _ _ _ us hl; obtain⟨_,_,_,_,_,e⟩:=us5 hl; subst e; rfl))); continue
  let some l:=ls.find? (·.startsWith (w ++ "=")) | Lean.Macro.throwUnsupported
  let ts:=(l.drop (w.length+1)).toString.splitOn " "
  let mut st:Array (Array Lean.Term) := #[#[]]
  for t in ts.drop 1 do
   if t == "(" then st:=st.push #[] else
    let mut x:Lean.Term:=⟨Lean.mkIdent t.toName⟩
    if t == ")" then
     let a:=st.back!
     st:=st.pop
     x <- `(($(Lean.Syntax.mkApp a[0]! (a.extract 1 a.size))))
    else if t == "?" then x <- `(?_)
    else if t == "_" then x <- `(_)
    else if t == "@d" then x <- `(by decide)
    else if t == "@r" then x <- `(by rfl)
    else if t == "@f" then x <- `(fun _ _=>rfl)
    else if t.startsWith "@i" then
     let n <- `(a ($(Lean.mkIdent `i) := $(Lean.Syntax.mkNumLit (t.drop 2).toString)))
     x:=⟨n.raw[1][0]⟩
    else if t.all Char.isDigit then x:=Lean.Syntax.mkNumLit t
    st:=st.push (st.back!.push x)
    st:=(st.extract 0 (st.size - 2)).push st.back!
  let a:=st[0]!
  let e:=Lean.Syntax.mkApp a[0]! (a.extract 1 a.size)
  o:=o.push (<- match ts.head! with
   | "R" => `(tactic| refine $e)
   | "E" => `(tactic| exact $e)
   | "I" => `(tactic| intro _ _ _ _ _ _)
   | "F" => `(tactic| first | exact Or.inl rfl | exact Or.inr rfl)
   | _ => `(tactic| rfl))
 `(tactic| ($[$o]*))
theorem Zim (T:Top K mg):Fn P w K mg base 1 "is_whole" ["thing"] Zfn:=by
 refine(fun h=>h:_->Fn P w K mg base 1 "is_whole" ["thing"] (Zbd 1 1 Zej)) (Zbi (N:=["thing"]) (k:=0) T.t_is_whole Znw (by fail "~U1") ?_)
 intro f cdv A outer s H E hr
 unfold Zej
 fail "~d j 4 Y a b i b"
 refine Ziu ?_ T.n_int Zuu
 fail "~a c a a"
 refine Zky ?_
 refine Zog ?_
 fail "~Y a b i b"
 refine Ziu ?_ T.n_bool Zvd
 fail "~a c a a"
theorem Zex (T:Top K mg):Fn P w K mg base 1 "first_numbers" ["rows"] Zbp:=by
 refine(fun h=>h:_->Fn P w K mg base 1 "first_numbers" ["rows"] (Zbd 1 4 Zb2)) (Zbi (N:=["rows","told","number","row"]) (k:=0) T.t_first_numbers Zez (by fail "~U1") ?_)
 intro f cdv A outer s H E hr
 unfold Zb2
 have nd:=Zez.nd
 fail "~e"
 refine Za8 (i:=1) ?_ ?_ ?_ Zld
 fail "~g a f e p a"
 refine Zpv ?_ T.n_enumerate ?_
 fail "~a b i c a 5 a 6 7 g a f 8 aj g a f d C"
 refine Zss Ur Tag (Yaj hr.units) (Zaa (pv 1)) ?_
 fail "~b o b n c a a d"
 exact Zbo (Zaa (pv 1))
theorem Zd2 (T:Top K mg):Fn P w K mg base 1 "rows_behind" ["rows","name","truth"] Za4:=by
 refine(fun h=>h:_->Fn P w K mg base 1 "rows_behind" ["rows","name","truth"] (Zbd 3 7 Zcm)) (Zbi (N:=["rows","name","truth","right","told","row","first"]) (k:=0) T.t_rows_behind Zfu (by fail "~U3") ?_)
 intro f cdv A outer s H E hr
 unfold Zcm
 have nd:=Zfu.nd
 fail "~e F g a f"
 refine Zr2 ?_ (Zaa (pv 1)) ?_
 exact Zgi (Zaa (pv 2)) (fun _=>rfl)
 exact Zel Zc1 (Zaa (pv 1))
 fail "~e"
 refine Za8 (i:=4) ?_ ?_ ?_ Zld
 fail "~g a f e p a"
 exact Ztc (Zaa (pv 0))
 fail "~Z g a f e 9 g a f"
 refine Zr2 ?_ ?_ Zae
 exact Zgi (Zaa (pv 5)) (fun _=>rfl)
 exact Zaw ixf (Zaa (pv 5)) Zae (fun _ _=>rfl)
 fail "~d"
 refine Zgf ?_ ?_ ?_
 refine Zam (Zco hr.units) (Zaa (pv 6)) ?_ (Za1 _)
 exact Zel Zc1 (Zaa (pv 3))
 fail "~d C"
 refine Zss Ur Tag (Yaj hr.units) (Zaa (pv 4)) ?_
 fail "~b"
 refine Zcq (Zaa (pv 5)) ?_ Zd1
 fail "~T b"
 exact Zaw (Znv hr.units) (Zaa (pv 0)) (Zaa (pv 5)) (fun _ _=>rfl)
 fail "~c a a d h"
 exact Zam (Zd9 hr.units) (Zaa (pv 6)) (Zaa (pv 3)) (Za1 _)
 fail "~d C"
 refine Zss Ur Tag (Yaj hr.units) (Zaa (pv 4)) ?_
 fail "~b 0 b"
 exact Zaw (Znv hr.units) (Zaa (pv 0)) (Zaa (pv 5)) (fun _ _=>rfl)
 fail "~c a a d"
 exact Zbo (Zaa (pv 4))
theorem Zf1 (T:Top K mg):Fn P w K mg base 2 "rows_behind_play" ["rows","play"] Zby:=by
 refine(fun h=>h:_->Fn P w K mg base 2 "rows_behind_play" ["rows","play"] (Zbd 2 5 Zbj)) (Zbi (N:=["rows","play","told","name","truth"]) (k:=1) T.t_rows_behind_play Zdu (by fail "~U2") ?_)
 intro f cdv A outer s H E hr
 unfold Zbj
 have nd:=Zdu.nd
 fail "~e U g a f"
 refine Zan (Zex T) (hr.mono (by decide)) ?_ ?_
 fail "~a b i c a e p a"
 refine Zuq ?_ T.n_enumerate ?_
 fail "~a b l c a 5 a 6 aj g a f 8 aa g a f d U g a f"
 refine Zan (Zd2 T) (hr.mono (by decide)) ?_ ?_
 fail "~a b n b o b s c a a a d"
 exact Zbo (Zaa (pv 2))
theorem Zgn (T:Top K mg):Fn P w K mg base 1 "other_side" ["side"] Zbq:=by
 refine(fun h=>h:_->Fn P w K mg base 1 "other_side" ["side"] (Zbd 1 1 Zc5)) (Zbi (N:=["side"]) (k:=0) T.t_other_side Zkk (by fail "~U1") ?_)
 intro f cdv A outer s H E hr
 unfold Zc5
 fail "~d j"
 refine Zr2 ?_ Zbe Zbe
 exact Zam (Zco hr.units) (Zaa (pv 0)) Zbe (Za1 _)
theorem Zhq (T:Top K mg):Fn P w K mg base 12 "winner_behind" ["kinds","rows","many"] Zcl:=by
 refine(fun h=>h:_->Fn P w K mg base 12 "winner_behind" ["kinds","rows","many"] (Zlg 3 5 Za2 10)) (Zth (N:=["kinds","rows","many","who","truth"]) (k:=1) T.t_winner_behind Zdc (by fail "~U3") ?_ 10)
 intro F j G f cdv A outer s H E hr
 unfold Za2
 fail "~e h"
 refine Zam (dinf hr.units) ?_ (Zaa (pv 1)) ?_
 fail "~K E d"
 exact Zbo Zbe
 fail "~e h N"
 refine Zca Zke ?_ T.n_len Zm1 ?_
 fail "~a b l c a d"
 exact Zbo Zbe
 fail "~e F"
 exact Zdc.nd
 fail "~a f"
 exact Zaw ixf (Zaa (pv 0)) (Zaa (pv 2)) (fun _ _=>rfl)
 fail "~e p a O"
 refine Zuw ?_ T.c_TRUTHS
 fail "~a aa"
 exact Zdc.nd
 fail "~a f d h"
 refine Zam (Zco hr.units) ?_ (Zaa (pv 3)) (Za1 _)
 fail "~av a b i b"
 refine Zan (Zd2 T) (hr.mono (by omega)) ?_ ?_
 fail "~a b l b"
 exact Zat Zbb (Zaa (pv 2)) Zae
 fail "~b s c a a a b"
 exact Zat Zbb (Zaa (pv 2)) Zae
 fail "~c a a a d"
 exact Zbo (Zaa (pv 3))
 fail "~d j"
 refine Zan (Zgn T) (hr.mono (by omega)) ?_ ?_
 fail "~a b o c a"
theorem Zmo (T:Top K mg):Fn P w K mg base 13 "winner" ["claim","play"] Zgk:=by
 refine(fun h=>h:_->Fn P w K mg base 13 "winner" ["claim","play"] (Zbd 2 2 Zgt)) (Zbi (N:=["claim","play"]) (k:=12) T.t_winner Zs4 (by fail "~U2") ?_)
 intro f cdv A outer s H E hr
 unfold Zgt
 fail "~d j"
 refine Zan (Zhq T) (hr.mono (by decide)) ?_ ?_
 fail "~a b m b"
 refine Zan (Zf1 T) (hr.mono (by decide)) ?_ ?_
 fail "~a b m b l c a a b k a b l c a c a a a"
theorem Zk7 (T:Top K mg):Fn P w K mg base 1 "are_of_all" ["kinds","literals"] Ze3:=by
 refine(fun h=>h:_->Fn P w K mg base 1 "are_of_all" ["kinds","literals"] (Zbd 2 2 Zc8)) (Zbi (N:=["kinds","literals"]) (k:=0) T.t_are_of_all Zk1 (by fail "~U2") ?_)
 intro f cdv A outer s H E hr
 unfold Zc8
 fail "~d j"
 refine Zca (Zun (by rfl)) ?_ T.n_all Yb3 ?_
 fail "~a b"
 refine Zpd (cn:=["kinds"]) ?_ (Zfh (x := "literal") (cn:=["kinds"]) (ci:=[0]) (by decide +kernel)) ?_ ?_ ?_
 fail "~a"
 exact Zcz (Zaa (pv 1))
 fail "~q"
 exact Zh2
 fail "~q"
 refine Zeu (Zco hr.units) ?_ Zbe (Za1 _)
 fail "~aw V ab a b i c a c a"
theorem Zg0 (T:Top K mg):Fn P w K mg base 2 "number_of_lost" ["kinds","rows"] Zde:=by
 refine(fun h=>h:_->Fn P w K mg base 2 "number_of_lost" ["kinds","rows"] (Zbd 2 3 Zbv)) (Zbi (N:=["kinds","rows","row"]) (k:=1) T.t_number_of_lost Zei (by fail "~U2") ?_)
 intro f cdv A outer s H E hr
 unfold Zbv
 fail "~e p a"
 exact Ztc (Zaa (pv 1))
 fail "~7"
 exact Zei.nd
 fail "~a f d h D"
 refine Zan (Zk7 T) (hr.mono (by decide)) ?_ ?_
 fail "~a b i b n c a a d j"
 exact Zaw (Znv hr.units) (Zaa (pv 1)) (Zaa (pv 2)) (fun _ _=>rfl)
 fail "~d B"
theorem ok_is_number_of (T:Top K mg):Fn P w K mg base 2 "is_number_of" ["thing","many"] Zbw:=by
 refine(fun h=>h:_->Fn P w K mg base 2 "is_number_of" ["thing","many"] (Zbd 2 2 Zcc)) (Zbi (N:=["thing","many"]) (k:=1) T.t_is_number_of Zjc (by fail "~U2") ?_)
 intro f cdv A outer s H E hr
 unfold Zcc
 fail "~d j 4"
 refine Zan (Zim T) (hr.mono (by decide)) ?_ ?_
 fail "~a b i c a"
 refine Zky ?_
 fail "~aH E"
theorem Zfw (T:Top K mg):Fn P w K mg base 2 "is_name_of_other" ["kinds","side","thing"] Zcp:=by
 refine(fun h=>h:_->Fn P w K mg base 2 "is_name_of_other" ["kinds","side","thing"] (Zbd 3 3 Zbk)) (Zbi (N:=["kinds","side","thing"]) (k:=1) T.t_is_name_of_other Zf8 (by fail "~U3") ?_)
 intro f cdv A outer s H E hr
 unfold Zbk
 fail "~d j 4"
 refine Zan (Zim T) (hr.mono (by decide)) ?_ ?_
 fail "~a b n c a 4"
 refine Zib Zpb Zpb Zae (Zaa (pv 2)) ?_ ?_
 fail "~k a b i c a E"
 refine Zky ?_
 refine Zeu (Zd9 hr.units) ?_ (Zaa (pv 1)) (Za1 _)
 fail "~am"
 exact Zat Zf2 (Zaa (pv 2)) Zae
theorem Zix (T:Top K mg):Fn P w K mg base 1 "lessened" ["kinds","side","row"] Zfk:=by
 refine(fun h=>h:_->Fn P w K mg base 1 "lessened" ["kinds","side","row"] (Zbd 3 4 Zeg)) (Zbi (N:=["kinds","side","row","stays"]) (k:=0) T.t_lessened Zf5 (by fail "~U3") ?_)
 intro f cdv A outer s H E hr
 unfold Zeg
 fail "~e F"
 exact Zf5.nd
 fail "~a f k a b n c a e"
 refine Zsn Tbd ?_ ?_
 fail "~w L"
 exact Zam Zma (Zaa (pv 3)) Zae (Za1 _)
 fail "~P ax am V ab a b 1"
 exact Zat Zf2 (Zaa (pv 3)) Zae
 fail "~c a d"
 refine Zzq (i:=3) Ydo ?_ ?_ ?_ Zae
 exact Zf5.nd
 fail "~a f d j"
 refine Zcq (Zaa (pv 2)) Zd1 ?_
 exact Zgj (Zaa (pv 3))
theorem Zkb (T:Top K mg):Fn P w K mg base 1 "without" ["row","literal"] Zgh:=by
 refine(fun h=>h:_->Fn P w K mg base 1 "without" ["row","literal"] (Zbd 2 2 Zfa)) (Zbi (N:=["row","literal"]) (k:=0) T.t_without Zqj (by fail "~U2") ?_)
 intro f cdv A outer s H E hr
 unfold Zfa
 fail "~d j W a b"
 refine Zpd (cn:=["literal"]) ?_ (Zfh (x := "other") (cn:=["literal"]) (ci:=[1]) (by decide +kernel)) ?_ ?_ ?_
 fail "~a"
 exact Zcz (Zaa (pv 0))
 fail "~q X"
 exact Zam (Zd9 hr.units) (Zaa (pv 0)) (Zaa (pv 1)) (Za1 _)
 fail "~q i c a"
theorem Yam (T:Top K mg):Fn P w K mg base 1 "both" ["one","other"] Zud:=by
 refine(fun h=>h:_->Fn P w K mg base 1 "both" ["one","other"] (Zbd 2 4 Zl2)) (Zbi (N:=["one","other","told","literal"]) (k:=0) T.t_both Zol (by fail "~U2") ?_)
 intro f cdv A outer s H E hr
 unfold Zl2
 fail "~e U"
 exact Zol.nd
 fail "~a f"
 refine Zhb Zqv ?_ T.n_list Zyz ?_
 fail "~a b i c a e p a"
 exact Zcz (Zaa (pv 1))
 fail "~aj"
 exact Zol.nd
 fail "~a f e h"
 refine Zam (Zu6 hr.units) ?_ (Zaa (pv 0)) ?_
 exact Zel Zc1 (Zaa (pv 3))
 fail "~E d B d h"
 refine Zam (Zgs hr.units) (Zaa (pv 3)) (Zaa (pv 0)) ?_
 fail "~E d C ac b o c a d j W a b"
 refine Zvb ?_ T.n_sorted ?_ T.n_abs ?_
 fail "~a a b n c a c a"
theorem Zmj (T:Top K mg):Fn P w K mg base 2 "joined" ["one","other","name"] Zhz:=by
 refine(fun h=>h:_->Fn P w K mg base 2 "joined" ["one","other","name"] (Zbd 3 3 Zgo)) (Zbi (N:=["one","other","name"]) (k:=1) T.t_joined Zt6 (by fail "~U3") ?_)
 intro f cdv A outer s H E hr
 unfold Zgo
 fail "~e h w H"
 refine Zam (Zgs hr.units) (Zaa (pv 2)) (Zaa (pv 0)) ?_
 fail "~E Q"
 refine Zam (Zgs hr.units) ?_ (Zaa (pv 1)) ?_
 exact Zel Zc1 (Zaa (pv 2))
 fail "~E d B d j"
 refine Zan (Yam T) (hr.mono (by decide)) ?_ ?_
 fail "~a b"
 refine Zan (Zkb T) (hr.mono (by decide)) ?_ ?_
 fail "~a b i b n c a a b"
 refine Zan (Zkb T) (hr.mono (by decide)) ?_ ?_
 fail "~a b l b"
 exact Zel Zc1 (Zaa (pv 2))
 fail "~c a a c a a"
theorem Ziw (T:Top K mg):Fn P w K mg base 3 "made_by_less" ["kinds","side","made","step"] Zfs:=by
 refine(fun h=>h:_->Fn P w K mg base 3 "made_by_less" ["kinds","side","made","step"] (Zbd 4 4 Zcb)) (Zbi (N:=["kinds","side","made","step"]) (k:=2) T.t_made_by_less Zig (by fail "~U4") ?_)
 intro f cdv A outer s H E hr
 unfold Zcb
 fail "~e h w H ay k a b o c a Q J D an a b r b k a b n c a c a a d B d j"
 refine Zan (Zix T) (hr.mono (by decide)) ?_ ?_
 fail "~a b i b l b 1 r c a a a"
theorem Zg6 (T:Top K mg):Fn P w K mg base 3 "made_by_joined" ["kinds","side","made","step"] Zey:=by
 refine(fun h=>h:_->Fn P w K mg base 3 "made_by_joined" ["kinds","side","made","step"] (Zbd 4 4 Zbs)) (Zbi (N:=["kinds","side","made","step"]) (k:=2) T.t_made_by_joined Zhe (by fail "~U4") ?_)
 intro f cdv A outer s H E hr
 unfold Zbs
 fail "~e h w H ay k a b o c a H J D an a b r b k a b n c a c a a Q J D an a b r b k a b n c a c a a d B e h J D"
 refine Zan (Zfw T) (hr.mono (by decide)) ?_ ?_
 fail "~a b i b l b r c a a a d B d j"
 refine Zan (Zmj T) (hr.mono (by decide)) ?_ ?_
 fail "~a b 1 r b 1 r b r c a a a"
theorem Zik (T:Top K mg):Fn P w K mg base 2 "put_step" ["kinds","side","pairs","step","row"] Zfo:=by
 refine(fun h=>h:_->Fn P w K mg base 2 "put_step" ["kinds","side","pairs","step","row"] (Zbd 5 6 Zd4)) (Zbi (N:=["kinds","side","pairs","step","row","less"]) (k:=1) T.t_put_step Zi4 (by fail "~U5") ?_)
 intro f cdv A outer s H E hr
 unfold Zd4
 fail "~e C ac b x b o b s c a a c a e ao"
 exact Zi4.nd
 fail "~a f"
 refine Zan (Zix T) (hr.mono (by decide)) ?_ ?_
 fail "~a b i b l b s c a a a d h"
 exact Zam (Zd9 hr.units) (Zaa (pv 5)) (Zaa (pv 4)) (Za1 _)
 fail "~d C ac b x b x b t b V k a b n c a c a a b 0 c a a c a"
theorem Zkr (T:Top K mg):Fn P w K mg base 3 "claims_row" ["claim","step"] Zhl:=by
 refine(fun h=>h:_->Fn P w K mg base 3 "claims_row" ["claim","step"] (Zbd 2 2 Zc7)) (Zbi (N:=["claim","step"]) (k:=2) T.t_claims_row Zk8 (by fail "~U2") ?_)
 intro f cdv A outer s H E hr
 unfold Zc7
 fail "~e h w H ay k a b l c a H"
 refine Zam (Zd9 hr.units) ?_ Zbe (Za1 _)
 fail "~R Q J D an a b R b k a b m c a c a a d B d j z m R"
theorem Zq1 (T:Top K mg):Fn P w K mg base 4 "made_by" ["claim","side","first","made","step"] Zgl:=by
 refine(fun h=>h:_->Fn P w K mg base 4 "made_by" ["claim","side","first","made","step"] (Zbd 5 5 Zff)) (Zbi (N:=["claim","side","first","made","step"]) (k:=3) T.t_made_by Zra (by fail "~U5") ?_)
 intro f cdv A outer s H E hr
 unfold Zff
 fail "~e h w H J D Y a b s b"
 refine Ziu ?_ T.n_tuple Zk6
 fail "~a c a a Q N k a b s c a d B e h 2 M d j"
 refine Zan (Ziw T) (hr.mono (by decide)) ?_ ?_
 fail "~a b m b l b o b s c a a a a e h 2 M d j"
 refine Zan (Zg6 T) (hr.mono (by decide)) ?_ ?_
 fail "~a b m b l b o b s c a a a a d j"
 refine Zr0 (i:=2) (Zkr T) T.v_claims_row (hr.mono (by decide)) (pv 2) ?_
 fail "~b i b s c a a"
theorem Zn8 (T:Top K mg):Fn P w K mg base 5 "all_made" ["claim","side","first","steps"] Zg9:=by
 refine(fun h=>h:_->Fn P w K mg base 5 "all_made" ["claim","side","first","steps"] (Zbd 4 8 Zd8)) (Zbi (N:=["claim","side","first","steps","made","number","step","row"]) (k:=4) T.t_all_made Zjf (by fail "~U4") ?_)
 intro f cdv A outer s H E hr
 unfold Zd8
 have nd:=Zjf.nd
 fail "~e I g a f G e p a"
 refine Zsq ?_ T.n_enumerate ?_
 fail "~a b o c a 5 a 6 Z g a f 8"
 refine Zbz (i:=6) ?_ ?_ ?_
 fail "~g a f e"
 refine Za8 (i:=7) ?_ ?_ ?_ ?_
 fail "~g a f"
 refine Zan (Zq1 T) (hr.mono (by decide)) ?_ ?_
 fail "~a b i b l b n b s b ad c a a a a a e h"
 exact Zam Ydy (Zaa (pv 7)) Zid (Za1 _)
 exact Zaj Zti Za9
 fail "~d C"
 refine Zir Ug Uh Zcw (Zaa (pv 4)) ?_
 fail "~b ae c a d"
 exact Zbo (Zaa (pv 4))
theorem Zj2 (T:Top K mg):Fn P w K mg base 6 "rows_of" ["claim","steps"] Zgv:=by
 refine(fun h=>h:_->Fn P w K mg base 6 "rows_of" ["claim","steps"] (Zbd 2 2 Ze6)) (Zbi (N:=["claim","steps"]) (k:=5) T.t_rows_of Zqq (by fail "~U2") ?_)
 intro f cdv A outer s H E hr
 unfold Ze6
 fail "~d j"
 refine Zan (Zn8 T) (hr.mono (by decide)) ?_ ?_
 fail "~a b i b t b"
 exact Ydg T.v_claims_row
 fail "~b l c a a a a"
theorem Zqn (T:Top K mg):Fn P w K mg base 1 "_law_mix" ["cell","k"] Zjb:=by
 refine(fun h=>h:_->Fn P w K mg base 1 "_law_mix" ["cell","k"] (Zbd 2 4 Zfe)) (Zbi (N:=["cell","k","prime","one"]) (k:=0) T.t_law_mix Zj3 (by fail "~U2") ?_)
 intro f cdv A outer s H E hr
 unfold Zfe
 have nd:=Zj3.nd
 fail "~e U g a f z u b y b y b y b y b y b y b y c a a a a a a a"
 exact Zat Zfv (Zaa (pv 1)) Zae
 fail "~e F g a f"
 refine Zat Zfv ?_ (Zaa (pv 2))
 refine Zat Zhc ?_ ?_
 fail "~af"
 exact Zat Zfv (Zaa (pv 0)) Zae
 refine Zat Zhc Zae ?_
 fail "~ak al af"
 exact Zat Zhc (Zaa (pv 1)) (Zaa (pv 1))
 fail "~az e F g a f v"
 exact Zat Zoi (Zaa (pv 3)) Zae
 fail "~e F g a f"
 refine Zat Zfv ?_ (Zaa (pv 2))
 fail "~al af"
 exact Zat Zhc (Zaa (pv 3)) Zae
 fail "~az d j"
 refine Zat Zkw ?_ Zae
 fail "~v"
 exact Zat Zoi (Zaa (pv 3)) Zae
theorem ok_law_digits (T:Top K mg):Fn P w K mg base 2 "_law_digits" ["cell","many"] Zcf:=by
 refine(fun h=>h:_->Fn P w K mg base 2 "_law_digits" ["cell","many"] (Zbd 2 6 Zc3)) (Zbi (N:=["cell","many","found","left_over","wide","k"]) (k:=1) T.t_law_digits Zgm (by fail "~U2") ?_)
 intro f cdv A outer s H E hr
 unfold Zc3
 have nd:=Zgm.nd
 fail "~e U g a f G e F g a f ab a b i c a e I g a f"
 refine Zeu Ybc (Zaa (pv 3)) ?_ (Za1 _)
 exact Zat Zoi Zae Zae
 fail "~e p a S a b l c a Z g a f d"
 refine Zgf ?_ ?_ ?_
 fail "~w L"
 exact Zgi (Zaa (pv 4)) (fun _=>rfl)
 fail "~P"
 exact Zam Zma (Zaa (pv 3)) Zae (Za1 _)
 fail "~e C ac b"
 exact Zat Zfv (Zaa (pv 3)) Zae
 fail "~c a d F g a f"
 exact Zat Zkw (Zaa (pv 3)) Zae
 fail "~d C ac b"
 refine Zan (Zqn T) (hr.mono (by decide)) ?_ ?_
 fail "~a b i b 0 c a a c a d"
 exact Zbo (Zaa (pv 2))
theorem ok_law_at (T:Top K mg):Fn P w K mg base 1 "_law_at" ["script","k"] Zdw:=by
 refine(fun h=>h:_->Fn P w K mg base 1 "_law_at" ["script","k"] (Zbd 2 2 Zgw)) (Zbi (N:=["script","k"]) (k:=0) T.t_law_at Zrr (by fail "~U2") ?_)
 intro f cdv A outer s H E hr
 unfold Zgw
 fail "~e h"
 refine Zam Zmy (Zaa (pv 1)) ?_ (Za1 _)
 fail "~k a b i c a d j"
 exact Zaw ixf (Zaa (pv 0)) (Zaa (pv 1)) (fun _ _=>rfl)
 fail "~d j af al az k a b i c a"
theorem Zls (T:Top K mg):Fn P w K mg base 1 "_law_kinds" ["some","many"] Zfx:=by
 refine(fun h=>h:_->Fn P w K mg base 1 "_law_kinds" ["some","many"] (Zbd 2 5 Zdr)) (Zbi (N:=["some","many","found","k","kind"]) (k:=0) T.t_law_kinds Zhm (by fail "~U2") ?_)
 intro f cdv A outer s H E hr
 unfold Zdr
 have nd:=Zhm.nd
 fail "~e U g a f G e p a S a b l c a aj g a f e I g a f z u b t b t c a a v am"
 exact Zat Zbb Zae (Zaa (pv 3))
 fail "~e h N v m d I g a f z u b t b t c a a v ap m e h N v m d I g a f z u b t b t c a a ag a b"
 refine Zeu Zma ?_ Zae (Za1 _)
 fail "~v am"
 exact Zat Zbb Zae (Zaa (pv 3))
 fail "~c a d C ac b s c a d j W a b n c a"
theorem Zrf (T:Top K mg):Fn P w K mg base 3 "_law_row" ["cell","many","wide"] Zic:=by
 refine(fun h=>h:_->Fn P w K mg base 3 "_law_row" ["cell","many","wide"] (Zbd 3 6 Ze7)) (Zbi (N:=["cell","many","wide","some","found","k"]) (k:=2) T.t_law_row Zj9 (by fail "~U3") ?_)
 intro f cdv A outer s H E hr
 unfold Ze7
 have nd:=Zj9.nd
 fail "~e F g a f aq a b i b ak c a a e I g a f G e p a S a b l c a Z g a f d h"
 refine Zam Zmy ?_ ?_ (Za1 _)
 fail "~3"
 refine Zaw ixf (Zaa (pv 3)) ?_ (fun _ _=>rfl)
 exact Zat Zbb Zae (Zaa (pv 5))
 fail "~ak aA v r d C"
 refine Zir Ug Uh Zcw (Zaa (pv 4)) ?_
 fail "~b z u b"
 exact Zat Zbb (Zaa (pv 5)) Zae
 fail "~b V"
 exact Zat Zf2 Zae (Zaa (pv 5))
 fail "~c a a v"
 refine Zat Zkw ?_ ?_
 refine Zaw ixf (Zaa (pv 3)) ?_ (fun _ _=>rfl)
 exact Zat Zbb Zae (Zaa (pv 5))
 fail "~ak c a d j W a b s c a"
theorem Zms (T:Top K mg):Fn P w K mg base 4 "_law_claim" ["script","most"] Zf0:=by
 refine(fun h=>h:_->Fn P w K mg base 4 "_law_claim" ["script","most"] (Zbd 2 7 Zdl)) (Zbi (N:=["script","most","some","many","kinds","size","rows"]) (k:=3) T.t_law_claim Zhg (by fail "~U2") ?_)
 intro f cdv A outer s H E hr
 unfold Zdl
 have nd:=Zhg.nd
 fail "~e U g a f aq a b ar a b i b y c a a b y c a a e F g a f z u b 3 A ak b"
 refine Zat Zf2 (Zaa (pv 1)) ?_
 fail "~v A b l c a a a v A e I g a f"
 refine Zan (Zls T) (hr.mono (by decide)) ?_ ?_
 fail "~a b aB T b"
 refine Zca (Znf (by rfl)) ?_ T.n_max Zx5 ?_
 fail "~a b y b o c a a c a a e ao g a f z u b v A b v A b"
 refine Zat Zbb Zae ?_
 fail "~v A c a a a v A e"
 refine Zdn (i:=6) (cn:=["script","kinds"]) ?_ (Zfh (x := "k") (cn:=["script","kinds"]) (ci:=[0,4]) (by decide +kernel)) ?_ ?_ ?_ ?_ ?_ ?_
 fail "~a S a b 0 c a q"
 exact Zh2
 fail "~q"
 refine Zan (Zrf T) (hr.mono (by decide)) ?_ ?_
 fail "~a b ar a b l b"
 exact Zat Zbb Zae (Zaa (pv 0))
 fail "~c a a b k a b n c a b y c a a a g a a e h"
 refine Zam Zma ?_ Zae (Za1 _)
 fail "~v A d"
 refine Zdn (i:=6) (cn:=[]) ?_ (Zfh (x := "row") (cn:=[]) (ci:=[]) (by decide +kernel)) ?_ ?_ ?_ ?_ ?_ ?_
 fail "~a"
 exact Zcz (Zaa (pv 6))
 fail "~q X"
 refine Zam (Zd9 hr.units) (Zaa (pv 0)) ?_ (Za1 _)
 fail "~K q i g a a d j x b s b W a b ad c a c a a"
theorem Zl5 (T:Top K mg):Fn P w K mg base 1 "_law_right" ["literal","play"] Zep:=by
 refine(fun h=>h:_->Fn P w K mg base 1 "_law_right" ["literal","play"] (Zbd 2 2 Zdm)) (Zbi (N:=["literal","play"]) (k:=0) T.t_law_right Zmg (by fail "~U2") ?_)
 intro f cdv A outer s H E hr
 unfold Zdm
 fail "~d j"
 refine Zeu (Zco hr.units) ?_ ?_ (Za1 _)
 fail "~aw V ab a b i c a"
 exact Zeu Zma (Zaa (pv 0)) Zae (Za1 _)
theorem ok_law_plays (T:Top K mg):Fn P w K mg base 1 "_law_plays" ["many"] Zcy:=by
 refine(fun h=>h:_->Fn P w K mg base 1 "_law_plays" ["many"] (Zbd 1 5 Zdq)) (Zbi (N:=["many","found","turn","more_plays","one"]) (k:=0) T.t_law_plays Zhn (by fail "~U1") ?_)
 intro f cdv A outer s H E hr
 unfold Zdq
 have nd:=Zhn.nd
 fail "~e"
 refine Za8 (i:=1) ?_ ?_ ?_ ?_
 fail "~g a f u b K c a e p a S a b i c a 7 g a f e F g a f G e p a"
 exact Zcz (Zaa (pv 1))
 fail "~aa g a f d F g a f ap u b aC x b ah c a b aC x b ah c a c a a d"
 refine Za8 (i:=1) ?_ ?_ ?_ (Zaa (pv 3))
 fail "~g a f d"
 exact Zbo (Zaa (pv 1))
theorem ok_law_lost (T:Top K mg):Fn P w K mg base 2 "_law_lost" ["rows","play"] Zci:=by
 refine(fun h=>h:_->Fn P w K mg base 2 "_law_lost" ["rows","play"] (Zbd 2 3 Zcu)) (Zbi (N:=["rows","play","row"]) (k:=1) T.t_law_lost Zi7 (by fail "~U2") ?_)
 intro f cdv A outer s H E hr
 unfold Zcu
 fail "~e p a"
 exact Zcz (Zaa (pv 0))
 fail "~7"
 exact Zi7.nd
 fail "~a f d h as"
 refine Zpd (cn:=["play"]) ?_ (Zfh (x := "literal") (cn:=["play"]) (ci:=[1]) (by decide +kernel)) ?_ ?_ ?_
 fail "~a"
 exact Zcz (Zaa (pv 2))
 fail "~q X D"
 refine Zan (Zl5 T) (hr.mono (by decide)) ?_ ?_
 fail "~a b i b l c a a q i G d ai d ai"
theorem Zft (T:Top K mg):Fn P w K mg base 3 "_law_winners" ["claim"] Zdg:=by
 refine(fun h=>h:_->Fn P w K mg base 3 "_law_winners" ["claim"] (Zbd 1 8 Zcr)) (Zbi (N:=["claim","found","play","many","kinds","rows","both_v","other"]) (k:=2) T.t_law_winners Zfp (by fail "~U1") ?_)
 intro f cdv A outer s H E hr
 unfold Zcr
 have nd:=Zfp.nd
 fail "~e"
 refine Zi6 (Zaa (pv 0)) ?_
 fail "~5 a 6 aa g a f 8 Z g a f e"
 refine Za8 (i:=1) ?_ ?_ ?_ Zld
 fail "~g a f e p a O aD a b k a b s c a c a 7 g a f d"
 refine Zi6 ?_ ?_
 fail "~z u b t b t c a a ag a b aE a b 0 b n c a a c a"
 exact Zkl (Zaa (pv 1)) (Zaa (pv 2)) (Ydv hr.units)
 fail "~e p a"
 refine Zqm ?_ T.n_range ?_
 fail "~a b V k a b s c a b"
 exact Zel Zc1 Zae
 fail "~b"
 exact Zel Zc1 Zae
 fail "~c a a a aj g a f d p a O aD a b o c a 7 g a f e 9 g a f u b"
 refine Zaw (Znv hr.units) (Zaa (pv 1)) ?_ (fun _ _=>rfl)
 fail "~aA x b ah c a b"
 refine Zaw (Znv hr.units) (Zaa (pv 1)) ?_ (fun _ _=>rfl)
 fail "~aA x b ah c a c a a e"
 refine Za8 (i:=7) ?_ ?_ ?_ ?_
 fail "~g a f z u b t b t c a a ag a b"
 refine Zeu (Zco hr.units) ?_ Zbe (Za1 _)
 fail "~aF c a d"
 refine Zi6 ?_ ?_
 fail "~z u b ae b aF c a a ag a b"
 refine Zeu (Zu6 hr.units) ?_ (Zaa (pv 6)) ?_
 fail "~aF E c a"
 exact Zkl (Zaa (pv 1)) (Zaa (pv 2)) (Ydv hr.units)
 fail "~d"
 exact Zbo (Zaa (pv 1))
theorem ok_law_whole (T:Top K mg):Fn P w K mg base 1 "_law_whole" ["thing","bound"] Zcd:=by
 refine(fun h=>h:_->Fn P w K mg base 1 "_law_whole" ["thing","bound"] (Zbd 2 2 Zdt)) (Zbi (N:=["thing","bound"]) (k:=0) T.t_law_whole Zni (by fail "~U2") ?_)
 intro f cdv A outer s H E hr
 unfold Zdt
 fail "~d j 4 Y a b i b"
 refine Ziu ?_ T.n_int Zuu
 fail "~a c a a 4"
 refine Zog ?_
 fail "~Y a b i b"
 refine Ziu ?_ T.n_bool Zvd
 fail "~a c a a"
 refine Zky ?_
 fail "~aH E"
theorem Zoc (T:Top K mg):Fn P w K mg base 1 "_law_less" ["kinds","side","row"] Zg8:=by
 refine(fun h=>h:_->Fn P w K mg base 1 "_law_less" ["kinds","side","row"] (Zbd 3 7 Zd6)) (Zbi (N:=["kinds","side","row","found","k","literal","behind"]) (k:=0) T.t_law_less Ziv (by fail "~U3") ?_)
 intro f cdv A outer s H E hr
 unfold Zd6
 have nd:=Ziv.nd
 fail "~e F g a f G e p a"
 refine Zpv ?_ T.n_enumerate ?_
 fail "~a b n c a 5 a 6 aa g a f 8 Z g a f e"
 refine Zdn (i:=6) (cn:=["kinds","side"]) ?_ (Zfh (x := "one") (cn:=["kinds","side"]) (ci:=[0,1]) (by decide +kernel)) ?_ ?_ ?_ ?_ ?_ ?_
 fail "~a O aB"
 exact Zgj (Zaa (pv 4))
 fail "~q X at aw V ab a b i c a q i g a a d h"
 refine Zam (Zd9 hr.units) (Zaa (pv 6)) ?_ (Za1 _)
 fail "~G d C"
 refine Zir Ug Uh Zcw (Zaa (pv 3)) ?_
 fail "~b 0 c a d j W a b o c a"
theorem Zgu (T:Top K mg):Fn P w K mg base 1 "_law_joined" ["row","other","name"] Zdy:=by
 refine(fun h=>h:_->Fn P w K mg base 1 "_law_joined" ["row","other","name"] (Zbd 3 5 Zc4)) (Zbi (N:=["row","other","name","found","one"]) (k:=0) T.t_law_joined Zeo (by fail "~U3") ?_)
 intro f cdv A outer s H E hr
 unfold Zc4
 fail "~e h w H"
 refine Zam (Zgs hr.units) (Zaa (pv 2)) (Zaa (pv 0)) ?_
 fail "~E Q"
 refine Zam (Zgs hr.units) ?_ (Zaa (pv 1)) ?_
 exact Zel Zc1 (Zaa (pv 2))
 fail "~E d B e"
 refine Za8 (i:=3) ?_ ?_ ?_ Zl6
 exact Zeo.nd
 fail "~a f e p a O"
 exact Zat Zbb (Zaa (pv 0)) (Zaa (pv 1))
 fail "~aa"
 exact Zeo.nd
 fail "~a f d h at ab a b s c a e h"
 refine Zam iinf ?_ (Zaa (pv 3)) ?_
 exact Zel Zc1 (Zaa (pv 4))
 fail "~E d B d"
 refine Zi6 Zo6 ?_
 exact Zkl (Zaa (pv 3)) (Zaa (pv 4)) Ycc
 fail "~d j W a b"
 refine Zqh ?_ ?_ T.n_sorted ?_ T.n_abs ?_
 fail "~a a a b o c a c a"
theorem Zno (T:Top K mg):Fn P w K mg base 2 "_law_first" ["claim","side","thing"] Zh6:=by
 refine(fun h=>h:_->Fn P w K mg base 2 "_law_first" ["claim","side","thing"] (Zbd 3 6 Zdp)) (Zbi (N:=["claim","side","thing","last","literal","row"]) (k:=1) T.t_law_first Zmi (by fail "~U3") ?_)
 intro f cdv A outer s H E hr
 unfold Zdp
 refine Zaj ?_ Zpe
 fail "~h"
 exact Zam (Zco hr.units) (Zaa (pv 1)) Zbe (Za1 _)
 fail "~e h J D au a b n b k a b m c a c a a d B d j"
 refine Zaw ixf ?_ (Zaa (pv 2)) (fun _ _=>rfl)
 fail "~m"
theorem Znt (T:Top K mg):Fn P w K mg base 3 "_law_step" ["claim","side","made","step"] Zg1:=by
 refine(fun h=>h:_->Fn P w K mg base 3 "_law_step" ["claim","side","made","step"] (Zbd 4 5 Zek)) (Zbi (N:=["claim","side","made","step","names"]) (k:=2) T.t_law_step Zh8 (by fail "~U4") ?_)
 intro f cdv A outer s H E hr
 unfold Zek
 fail "~e h w H J D Y a b o b"
 refine Ziu ?_ T.n_tuple Zk6
 fail "~a c a a H N k a b o c a Q J D Y a b r b"
 refine Ziu ?_ T.n_str Ybu
 fail "~a c a a d B e h w L 2 r L N k a b o c a P D au a b r b k a b n c a c a a d j"
 refine Zan (Zoc T) (hr.mono (by decide)) ?_ ?_
 fail "~a b m b l b 1 r c a a a e h w L 2 r P N k a b o c a e"
 refine Zdn (i:=4) (cn:=["claim","side"]) ?_ (Zfh (x := "k") (cn:=["claim","side"]) (ci:=[0,1]) (by decide +kernel)) ?_ ?_ ?_ ?_ ?_ ?_
 fail "~a S a b k a b m c a c a q X at"
 refine Zaw ixf ?_ (Zaa (pv 0)) (fun _ _=>rfl)
 fail "~R q"
 exact Zat Zbb (Zaa (pv 0)) Zae
 exact Zh8.nd
 fail "~a a e h"
 refine Zam (Zu6 hr.units) Zo6 ?_ ?_
 refine Zpd (cn:=["made"]) ?_ (Zfh (x := "number") (cn:=["made"]) (ci:=[2]) (by decide +kernel)) ?_ ?_ ?_
 fail "~a O"
 refine Zcq (Zaa (pv 3)) ?_ ?_
 fail "~T T q"
 exact Zh2
 fail "~q au a b i b k a b l c a c a a E d B e h w H J D au a b r b al k a b m c a c a a Q"
 refine Zam (Zgs hr.units) ?_ (Zaa (pv 4)) ?_
 fail "~r E d B d j"
 refine Zan (Zgu T) (hr.mono (by decide)) ?_ ?_
 fail "~a b 1 r b 1 r b r c a a a e h w L as r z u b t b t c a a ag a b"
 exact Zeu (Zco hr.units) (Zaa (pv 1)) Zbe (Za1 _)
 fail "~c a P N k a b o c a d j"
 refine Zan (Zno T) (hr.mono (by decide)) ?_ ?_
 fail "~a b i b l b r c a a a d B"
theorem Zhd (T:Top K mg):Fn P w K mg base 2 "_law_drawn_step" ["claim","side","made","kept","some"] Zdd:=by
 refine(fun h=>h:_->Fn P w K mg base 2 "_law_drawn_step" ["claim","side","made","kept","some"] (Zbd 5 10 Zbt)) (Zbi (N:=["claim","side","made","kept","some","names","turn","i","j","name"]) (k:=1) T.t_law_drawn_step Zeb (by fail "~U5") ?_)
 intro f cdv A outer s H E hr
 unfold Zbt
 have nd:=Zeb.nd
 fail "~e h w L N v M P"
 refine Zam (Zd9 hr.units) (Zaa (pv 2)) ?_ (Za1 _)
 fail "~G d j x b t b 3 M k a b n c a c a a e h w L"
 refine Zam Zmy ?_ Zae (Za1 _)
 fail "~v M P"
 refine Zam (Zd9 hr.units) (Zaa (pv 2)) ?_ (Za1 _)
 fail "~G e"
 refine Zdn (i:=5) (cn:=["claim","side"]) ?_ (Zfh (x := "k") (cn:=["claim","side"]) (ci:=[0,1]) (by decide +kernel)) ?_ ?_ ?_ ?_ ?_ ?_
 fail "~a S a b k a b m c a c a q X at"
 refine Zaw ixf ?_ (Zaa (pv 0)) (fun _ _=>rfl)
 fail "~R q"
 exact Zat Zbb (Zaa (pv 0)) Zae
 fail "~g a a d p a S a b k a b n c a c a"
 refine Zbz (i:=6) ?_ ?_ ?_
 fail "~g a f e"
 refine Za8 (i:=7) ?_ ?_ ?_ ?_
 fail "~g a f 3"
 refine Zat Zbb ?_ (Zaa (pv 6))
 fail "~M k a b n c a e"
 refine Za8 (i:=8) ?_ ?_ ?_ ?_
 fail "~g a f 3 af M"
 exact Zat Zhc Zae (Zaa (pv 6))
 fail "~k a b n c a d p a"
 exact Zcz (Zaa (pv 5))
 refine Zbz (i:=9) ?_ ?_ ?_
 fail "~g a f d h"
 refine Zam Zoh ?_ Zid (Za1 _)
 refine Zan (Zgu T) (hr.mono (by decide)) ?_ ?_
 fail "~a b"
 exact Zaw ixf (Zaa (pv 2)) (Zaa (pv 7)) (fun _ _=>rfl)
 fail "~b"
 exact Zaw ixf (Zaa (pv 2)) (Zaa (pv 8)) (fun _ _=>rfl)
 fail "~b"
 exact(Zaa (pv 9))
 fail "~c a a a d j x b t b ae b"
 exact(Zaa (pv 8))
 fail "~b"
 exact(Zaa (pv 9))
 fail "~c a a a a"
 refine Zaj ?_ Zpe
 fail "~h"
 exact Zam (Zco hr.units) (Zaa (pv 1)) Zbe (Za1 _)
 fail "~e h as m K d B d j x b t b 3 M k a b m c a c a a"
theorem Zge (T:Top K mg):Fn P w K mg base 4 "_law_drawn_steps" ["claim","side","script","at","many"] Zcv:=by
 refine(fun h=>h:_->Fn P w K mg base 4 "_law_drawn_steps" ["claim","side","script","at","many"] (Zbd 5 11 Zbn)) (Zbi (N:=["claim","side","script","at","many","steps","made","kept","k","some","step"]) (k:=3) T.t_law_drawn_steps Zd0 (by fail "~U5") ?_)
 intro f cdv A outer s H E hr
 unfold Zbn
 have nd:=Zd0.nd
 fail "~e ao g a f G e 9 g a f G e"
 refine Zdn (i:=7) (cn:=["claim"]) ?_ (Zfh (x := "play") (cn:=["claim"]) (ci:=[0]) (by decide +kernel)) ?_ ?_ ?_ ?_ ?_ ?_
 fail "~a O aD a b k a b m c a c a q X J D aE a b R b i c a a q i g a a e p a S a b s c a"
 refine Zbz (i:=8) ?_ ?_ ?_
 fail "~g a f e"
 refine Za8 (i:=9) ?_ ?_ ?_ ?_
 fail "~g a f"
 refine Zcq ?_ ?_ Zd1
 fail "~aq a b ar a b n b"
 exact Zat Zbb (Zaa (pv 3)) (Zaa (pv 8))
 fail "~c a a b y c a a T e"
 refine Za8 (i:=10) ?_ ?_ ?_ ?_
 fail "~g a f"
 refine Zan (Zhd T) (hr.mono (by decide)) ?_ ?_
 fail "~a b i b l b ad b ae b"
 exact(Zaa (pv 9))
 fail "~c a a a a a d h"
 exact Zam Zoh (Zaa (pv 10)) Zid (Za1 _)
 fail "~e C"
 refine Zir Ug Uh Zcw (Zaa (pv 5)) ?_
 fail "~b"
 exact(Zaa (pv 10))
 fail "~c a d C"
 refine Zir Ug Uh Zcw (Zaa (pv 6)) ?_
 fail "~b"
 refine Zan (Znt T) (hr.mono (by decide)) ?_ ?_
 fail "~a b i b l b ad b"
 exact(Zaa (pv 10))
 fail "~c a a a a c a d"
 exact Zbo (Zaa (pv 5))
theorem Zoe (T:Top K mg):Fn P w K mg base 11 "_law_full" ["claim","side","tree","play"] Zj8:=by
 refine(fun h=>h:_->Fn P w K mg base 11 "_law_full" ["claim","side","tree","play"] (Zlg 4 9 Za6 10)) (Zth (N:=["claim","side","tree","play","both_v","picks","found","truth","rest"]) (k:=0) T.t_law_full Zi9 (by fail "~U4") ?_ 10)
 intro F j G f cdv A outer s H E hr
 unfold Za6
 have nd:=Zi9.nd
 fail "~e h as k a b o c a k a b m c a d j u b o c a e h w L ax z m k a b o c a P 2 A d j av a b i b l b A b ap x b A c a c a a a a e I g a f u b n b n c a a e h 2 A d I g a f aB T e ao g a f u b x b ah b M c a a b x b ah b M c a a c a a e h w L 2 A P ax z m k a b o c a d"
 refine Zdn (i:=5) (cn:=["claim","tree","play"]) ?_ (Zfh (x := "one") (cn:=["claim","tree","play"]) (ci:=[0,2,3]) (by decide +kernel)) ?_ ?_ ?_ ?_ ?_ ?_
 fail "~a"
 exact Zcz (Zaa (pv 5))
 fail "~q X"
 refine Zam (Zgs hr.units) ?_ ?_ ?_
 fail "~z u b al k a b o c a b V"
 refine Zat Zf2 Zae ?_
 fail "~k a b o c a c a a ag a b"
 refine Zog ?_
 fail "~m c a z R A E q i g a a e 9 g a f G e p a"
 exact Zcz (Zaa (pv 5))
 fail "~5 a 6"
 refine Zbz (i:=7) ?_ ?_ ?_
 fail "~g a f 8"
 refine Zbz (i:=8) ?_ ?_ ?_
 fail "~g a f d 9 g a f"
 refine Zat Zbb (Zaa (pv 6)) ?_
 fail "~av a b i b l b"
 exact(Zaa (pv 8))
 fail "~b ap x b ae c a c a a a a d"
 exact Zbo (Zaa (pv 6))
theorem Zho (T:Top K mg):ClOk P w K mg base 1 "row_paper" "claim" 2 Zdo:=by
 refine(fun h=>h:_->ClOk P w K mg base 1 "row_paper" "claim" 2 (Yar 2 3 Zb4)) (fn_cl (N:=["tree","play","claim"]) (k:=0) (st:=Zfc) (T.t_row_paper.first rfl) Zht (fun _ _ _ _ _ _ _ us hl=>by obtain⟨_,_,rfl⟩:=us2 hl; rfl) ?_)
 intro qual f cdv c A outer s H hr
 unfold Zb4
 fail "~d j x b x b t b m c a a b z A m c a a"
theorem Zjn (T:Top K mg):Fn P w K mg base 25 "plan_behind" ["kinds","rows","many"] (Zem 3 4 3 7 Zax Zap 22).1/\Fn P w K mg base 25 "plan_by_picks" ["kinds","rows","many"] (Zem 3 4 3 7 Zax Zap 22).2:=by
 refine(fun h=>h:_->Fn P w K mg base 25 "plan_behind" ["kinds","rows","many"] (Zem 3 4 3 7 Zax Zap 22).1/\Fn P w K mg base 25 "plan_by_picks" ["kinds","rows","many"] (Zem 3 4 3 7 Zax Zap 22).2) (Zod (N1:=["kinds","rows","many","number"]) (N2:=["kinds","rows","many","who","trees","truth","told"]) (k:=2) T.t_plan_behind Zfq (fun _ _ _ _ _ _ us hl=>by obtain⟨_,_,_,rfl⟩:=us3 hl; rfl) T.t_plan_by_picks Zbu (fun _ _ _ _ _ _ us hl=>by obtain⟨_,_,_,rfl⟩:=us3 hl; rfl) ?_ ?_ 22)
 ·intro F1 F2 j G1 G2 f cdv A outer s H E hr
  unfold Zax
  refine Zaj ?_ ?_
  refine Zgf ?_ ?_ Za9
  refine Zam (Zco hr.units) ?_ Zae (Za1 _)
  refine Zca Zke ?_ T.n_len Zm1 ?_
  rfl
  refine Zav ?_ ?_ ?_
  exact(Zaa (pv 1))
  exact Za3
  rfl
  refine Zaj ?_ Za9
  refine Zbo ?_
  refine Zc0 ?_
  refine Zav ?_ ?_ ?_
  exact Zbe
  refine Zav ?_ ?_ ?_
  refine Zc0 ?_
  refine Zav ?_ ?_ ?_
  exact Zbe
  exact Za3
  rfl
  exact Za3
  rfl
  rfl
  refine Zaj ?_ ?_
  refine Za8 (i:=3) ?_ ?_ ?_ ?_
  exact Zfq.nd
  rfl
  first | exact Tba rfl | exact Tau rfl
  refine Zan (Zg0 T) (hr.mono (by omega)) ?_ ?_
  rfl
  refine Zav ?_ ?_ ?_
  exact(Zaa (pv 0))
  refine Zav ?_ ?_ ?_
  exact(Zaa (pv 1))
  exact Za3
  rfl
  rfl
  refine Zaj ?_ ?_
  refine Zgf ?_ ?_ Za9
  exact Zam Zoh (Zaa (pv 3)) Zid (Za1 _)
  refine Zaj ?_ Za9
  refine Zbo ?_
  refine Zc0 ?_
  refine Zav ?_ ?_ ?_
  exact Zbe
  refine Zav ?_ ?_ ?_
  refine Zc0 ?_
  refine Zav ?_ ?_ ?_
  exact Zbe
  refine Zav ?_ ?_ ?_
  exact(Zaa (pv 3))
  exact Za3
  rfl
  rfl
  exact Za3
  rfl
  rfl
  refine Zaj ?_ Za9
  refine Zbo ?_
  refine Zan G2 (hr.mono (Xd _)) ?_ ?_
  rfl
  refine Zav ?_ ?_ ?_
  exact(Zaa (pv 0))
  refine Zav ?_ ?_ ?_
  exact(Zaa (pv 1))
  refine Zav ?_ ?_ ?_
  exact(Zaa (pv 2))
  exact Za3
  rfl
  rfl
  rfl
 ·intro F1 F2 j G1 G2 f cdv A outer s H E hr
  unfold Zap
  refine Zaj ?_ ?_
  refine Za8 (i:=3) ?_ ?_ ?_ ?_
  exact Zbu.nd
  rfl
  first | exact Tba rfl | exact Tau rfl
  exact Zaw ixf (Zaa (pv 0)) (Zaa (pv 2)) (fun _ _=>rfl)
  refine Zaj ?_ ?_
  refine Za8 (i:=4) ?_ ?_ ?_ ?_
  exact Zbu.nd
  rfl
  first | exact Tba rfl | exact Tau rfl
  exact Zon Za3
  refine Zaj ?_ ?_
  refine Zos Tbd ?_ ?_ ?_ ?_
  rfl
  refine Zcz ?_
  refine Zuw ?_ T.c_TRUTHS
  rfl
  refine Zbz (i:=5) ?_ ?_ ?_
  exact Zbu.nd
  rfl
  first | exact Tba rfl | exact Tau rfl
  refine Zaj ?_ ?_
  refine Za8 (i:=6) ?_ ?_ ?_ ?_
  exact Zbu.nd
  rfl
  first | exact Tba rfl | exact Tau rfl
  refine Zan G1 (hr.mono (Xd _)) ?_ ?_
  rfl
  refine Zav ?_ ?_ ?_
  exact(Zaa (pv 0))
  refine Zav ?_ ?_ ?_
  refine Zan (Zd2 T) (hr.mono (by omega)) ?_ ?_
  rfl
  refine Zav ?_ ?_ ?_
  exact(Zaa (pv 1))
  refine Zav ?_ ?_ ?_
  exact Zat Zbb (Zaa (pv 2)) Zae
  refine Zav ?_ ?_ ?_
  exact(Zaa (pv 5))
  exact Za3
  rfl
  rfl
  rfl
  refine Zav ?_ ?_ ?_
  exact Zat Zbb (Zaa (pv 2)) Zae
  exact Za3
  rfl
  rfl
  rfl
  refine Zaj ?_ ?_
  refine Zgf ?_ ?_ Za9
  refine Zam (Zco hr.units) ?_ (Zaa (pv 3)) (Za1 _)
  exact Zaw ixf (Zaa (pv 6)) Zae (fun _ _=>rfl)
  refine Zaj ?_ Za9
  refine Zbo ?_
  refine Zc0 ?_
  refine Zav ?_ ?_ ?_
  exact(Zaa (pv 3))
  refine Zav ?_ ?_ ?_
  refine Zc0 ?_
  refine Zav ?_ ?_ ?_
  exact Zbe
  refine Zav ?_ ?_ ?_
  exact(Zaa (pv 5))
  refine Zav ?_ ?_ ?_
  exact Zaw ixf (Zaa (pv 6)) Zae (fun _ _=>rfl)
  exact Za3
  rfl
  rfl
  rfl
  exact Za3
  rfl
  rfl
  refine Zaj ?_ Za9
  refine Zes ?_
  refine Zir Ug Uh Zcw (Zaa (pv 4)) ?_
  refine Zav ?_ ?_ ?_
  exact Zaw ixf (Zaa (pv 6)) Zae (fun _ _=>rfl)
  exact Za3
  rfl
  refine Zaj ?_ Za9
  refine Zbo ?_
  refine Zc0 ?_
  refine Zav ?_ ?_ ?_
  refine Zan (Zgn T) (hr.mono (by omega)) ?_ ?_
  rfl
  refine Zav ?_ ?_ ?_
  exact(Zaa (pv 3))
  exact Za3
  rfl
  refine Zav ?_ ?_ ?_
  refine Zc0 ?_
  refine Zav ?_ ?_ ?_
  exact Zbe
  refine Zav ?_ ?_ ?_
  exact Zaw ixf (Zaa (pv 4)) Zae (fun _ _=>rfl)
  refine Zav ?_ ?_ ?_
  exact Zaw ixf (Zaa (pv 4)) Zae (fun _ _=>rfl)
  exact Za3
  rfl
  rfl
  rfl
  exact Za3
  rfl
  rfl
theorem Ztw (T:Top K mg):Fn P w K mg base 26 "plan" ["claim"] Zmd:=by
 refine(fun h=>h:_->Fn P w K mg base 26 "plan" ["claim"] (Zbd 1 1 Zm8)) (Zbi (N:=["claim"]) (k:=25) T.t_plan Yag (by fail "~U1") ?_)
 intro f cdv A outer s H E hr
 unfold Zm8
 fail "~d j"
 refine Zan (Zjn T).1 (hr.mono (by decide)) ?_ ?_
 fail "~a b m b"
 refine Zan (Zex T) (hr.mono (by decide)) ?_ ?_
 fail "~a b m c a b y c a a a"
theorem Zoj (T:Top K mg):Fn P w K mg base 25 "put_tree" ["kinds","side","end","pairs","tree","play"] (Zem 6 7 6 13 Zar Zau 22).1/\Fn P w K mg base 25 "put_each" ["kinds","side","end","pairs","tree","play"] (Zem 6 7 6 13 Zar Zau 22).2:=by
 refine(fun h=>h:_->Fn P w K mg base 25 "put_tree" ["kinds","side","end","pairs","tree","play"] (Zem 6 7 6 13 Zar Zau 22).1/\Fn P w K mg base 25 "put_each" ["kinds","side","end","pairs","tree","play"] (Zem 6 7 6 13 Zar Zau 22).2) (Zod (N1:=["kinds","side","end","pairs","tree","play","told"]) (N2:=["kinds","side","end","pairs","tree","play","name","numbers","one","other","truth","branch","row"]) (k:=2) T.t_put_tree Zh7 (fun _ _ _ _ _ _ us hl=>by obtain⟨_,_,_,_,_,_,rfl⟩:=us6 hl; rfl) T.t_put_each Zb5 (fun _ _ _ _ _ _ us hl=>by obtain⟨_,_,_,_,_,_,rfl⟩:=us6 hl; rfl) ?_ ?_ 22)
 ·intro F1 F2 j G1 G2 f cdv A outer s H E hr
  unfold Zar
  refine Zaj ?_ Za9
  refine Zgf ?_ ?_ ?_
  refine Zam (Zco hr.units) ?_ Zbe (Za1 _)
  exact Zaw ixf (Zaa (pv 4)) Zae (fun _ _=>rfl)
  refine Zaj ?_ Za9
  refine Zes ?_
  refine Zan G1 (hr.mono (Xd _)) ?_ ?_
  rfl
  refine Zav ?_ ?_ ?_
  exact(Zaa (pv 0))
  refine Zav ?_ ?_ ?_
  exact(Zaa (pv 1))
  refine Zav ?_ ?_ ?_
  exact(Zaa (pv 2))
  refine Zav ?_ ?_ ?_
  exact(Zaa (pv 3))
  refine Zav ?_ ?_ ?_
  exact Zaw ixf (Zaa (pv 4)) Zae (fun _ _=>rfl)
  refine Zav ?_ ?_ ?_
  refine Zat Zbb (Zaa (pv 5)) ?_
  refine Zc0 ?_
  refine Zav ?_ ?_ ?_
  exact Zaw ixf (Zaa (pv 4)) Zae (fun _ _=>rfl)
  exact Za3
  rfl
  exact Za3
  rfl
  rfl
  rfl
  rfl
  rfl
  rfl
  refine Zaj ?_ Za9
  refine Zgf ?_ ?_ ?_
  refine Zam (Zco hr.units) ?_ Zbe (Za1 _)
  exact Zaw ixf (Zaa (pv 4)) Zae (fun _ _=>rfl)
  refine Zaj ?_ Za9
  refine Zes ?_
  refine Zan G2 (hr.mono (Xd _)) ?_ ?_
  rfl
  refine Zav ?_ ?_ ?_
  exact(Zaa (pv 0))
  refine Zav ?_ ?_ ?_
  exact(Zaa (pv 1))
  refine Zav ?_ ?_ ?_
  exact(Zaa (pv 2))
  refine Zav ?_ ?_ ?_
  exact(Zaa (pv 3))
  refine Zav ?_ ?_ ?_
  exact(Zaa (pv 4))
  refine Zav ?_ ?_ ?_
  exact(Zaa (pv 5))
  exact Za3
  rfl
  rfl
  rfl
  rfl
  rfl
  rfl
  refine Zaj ?_ ?_
  refine Za8 (i:=6) ?_ ?_ ?_ ?_
  exact Zh7.nd
  rfl
  first | exact Tba rfl | exact Tau rfl
  refine Zs9 (i:=2) (Zho T) (hr.mono (by omega)) (pv 2) ?_
  refine Zav ?_ ?_ ?_
  exact(Zaa (pv 4))
  refine Zav ?_ ?_ ?_
  exact(Zaa (pv 5))
  exact Za3
  rfl
  rfl
  refine Zaj ?_ Za9
  refine Zes ?_
  refine Zan (Zik T) (hr.mono (by omega)) ?_ ?_
  rfl
  refine Zav ?_ ?_ ?_
  exact(Zaa (pv 0))
  refine Zav ?_ ?_ ?_
  exact(Zaa (pv 1))
  refine Zav ?_ ?_ ?_
  exact(Zaa (pv 3))
  refine Zav ?_ ?_ ?_
  exact Zaw ixf (Zaa (pv 6)) Zae (fun _ _=>rfl)
  refine Zav ?_ ?_ ?_
  exact Zaw ixf (Zaa (pv 6)) Zae (fun _ _=>rfl)
  exact Za3
  rfl
  rfl
  rfl
  rfl
  rfl
 ·intro F1 F2 j G1 G2 f cdv A outer s H E hr
  unfold Zau
  refine Zaj ?_ ?_
  refine Za8 (i:=6) ?_ ?_ ?_ ?_
  exact Zb5.nd
  rfl
  first | exact Tba rfl | exact Tau rfl
  refine Zat Zbb ?_ Zae
  refine Zca Zis ?_ T.n_len Zm1 ?_
  rfl
  refine Zav ?_ ?_ ?_
  exact(Zaa (pv 5))
  exact Za3
  rfl
  refine Zaj ?_ ?_
  refine Za8 (i:=7) ?_ ?_ ?_ Zl6
  exact Zb5.nd
  rfl
  first | exact Tba rfl | exact Tau rfl
  refine Zaj ?_ ?_
  refine Zos Tbd ?_ ?_ ?_ ?_
  rfl
  refine Zwo ?_ T.n_zip ?_
  rfl
  refine Zav ?_ ?_ ?_
  refine Zuw ?_ T.c_TRUTHS
  rfl
  refine Zav ?_ ?_ ?_
  refine Zcq (Zaa (pv 4)) ?_ Zd1
  exact Zgj Zae
  exact Za3
  rfl
  rfl
  refine Zsi ?_ ?_
  rfl
  refine Zgr ?_ ?_
  refine Zbz (i:=10) ?_ ?_ ?_
  exact Zb5.nd
  rfl
  first | exact Tba rfl | exact Tau rfl
  refine Zgr ?_ Zpc
  refine Zbz (i:=11) ?_ ?_ ?_
  exact Zb5.nd
  rfl
  first | exact Tba rfl | exact Tau rfl
  refine Zaj ?_ ?_
  refine Zes ?_
  refine Zan G1 (hr.mono (Xd _)) ?_ ?_
  rfl
  refine Zav ?_ ?_ ?_
  exact(Zaa (pv 0))
  refine Zav ?_ ?_ ?_
  exact(Zaa (pv 1))
  refine Zav ?_ ?_ ?_
  exact(Zaa (pv 2))
  refine Zav ?_ ?_ ?_
  exact(Zaa (pv 3))
  refine Zav ?_ ?_ ?_
  exact(Zaa (pv 11))
  refine Zav ?_ ?_ ?_
  refine Zat Zbb (Zaa (pv 5)) ?_
  refine Zc0 ?_
  refine Zav ?_ ?_ ?_
  exact(Zaa (pv 10))
  exact Za3
  rfl
  exact Za3
  rfl
  rfl
  rfl
  rfl
  rfl
  rfl
  refine Zaj ?_ ?_
  refine Za8 (i:=12) ?_ ?_ ?_ ?_
  exact Zb5.nd
  rfl
  first | exact Tba rfl | exact Tau rfl
  refine Zaw ixf ?_ Zae (fun _ _=>rfl)
  refine Zaw ixf (Zaa (pv 3)) ?_ (fun _ _=>rfl)
  exact Zel Zc1 Zae
  refine Zaj ?_ ?_
  refine Zgf ?_ ?_ Za9
  refine PWf.pt ?_
  refine Zux ?_ ?_
  refine Zam (Zgs hr.units) (Zaa (pv 6)) (Zaa (pv 12)) ?_
  with_unfolding_all rfl
  refine Zp2 ?_
  refine Zam (Zgs hr.units) ?_ (Zaa (pv 12)) ?_
  exact Zel Zc1 (Zaa (pv 6))
  with_unfolding_all rfl
  exact Zaj Zvl Za9
  refine Zaj ?_ Za9
  refine Zi6 ?_ ?_
  refine Zat Zf2 ?_ Zae
  refine Zca Zis ?_ T.n_len Zm1 ?_
  rfl
  refine Zav ?_ ?_ ?_
  exact(Zaa (pv 3))
  exact Za3
  rfl
  refine Zkl (Zaa (pv 7)) ?_ Ycc
  refine Zaw ixf (Zaa (pv 12)) ?_ (fun _ _=>rfl)
  exact Zel Zc1 Zae
  refine Zaj ?_ ?_
  refine Za8 (i:=8) ?_ ?_ ?_ ?_
  exact Zb5.nd
  rfl
  first | exact Tba rfl | exact Tau rfl
  exact Zaw Ybn (Zaa (pv 7)) (Zaa (pv 6)) (fun _ _=>rfl)
  refine Zaj ?_ ?_
  refine Za8 (i:=9) ?_ ?_ ?_ ?_
  exact Zb5.nd
  rfl
  first | exact Tba rfl | exact Tau rfl
  refine Zaw Ybn (Zaa (pv 7)) ?_ (fun _ _=>rfl)
  exact Zel Zc1 (Zaa (pv 6))
  refine Zaj ?_ Za9
  refine Zes ?_
  refine Zan (Zik T) (hr.mono (by omega)) ?_ ?_
  rfl
  refine Zav ?_ ?_ ?_
  exact(Zaa (pv 0))
  refine Zav ?_ ?_ ?_
  exact(Zaa (pv 1))
  refine Zav ?_ ?_ ?_
  exact(Zaa (pv 3))
  refine Zav ?_ ?_ ?_
  refine Zc0 ?_
  refine Zav ?_ ?_ ?_
  exact Zbe
  refine Zav ?_ ?_ ?_
  exact(Zaa (pv 8))
  refine Zav ?_ ?_ ?_
  exact(Zaa (pv 9))
  refine Zav ?_ ?_ ?_
  exact(Zaa (pv 6))
  exact Za3
  rfl
  rfl
  rfl
  rfl
  refine Zav ?_ ?_ ?_
  refine Zan (Zmj T) (hr.mono (by omega)) ?_ ?_
  rfl
  refine Zav ?_ ?_ ?_
  refine Zaw ixf ?_ Zae (fun _ _=>rfl)
  exact Zaw ixf (Zaa (pv 3)) (Zaa (pv 8)) (fun _ _=>rfl)
  refine Zav ?_ ?_ ?_
  refine Zaw ixf ?_ Zae (fun _ _=>rfl)
  exact Zaw ixf (Zaa (pv 3)) (Zaa (pv 9)) (fun _ _=>rfl)
  refine Zav ?_ ?_ ?_
  exact(Zaa (pv 6))
  exact Za3
  rfl
  rfl
  rfl
  exact Za3
  rfl
  rfl
  rfl
  rfl
  rfl
theorem Zwt (T:Top K mg):Fn P w K mg base 27 "paper" ["claim","side","end"] Zn3:=by
 refine(fun h=>h:_->Fn P w K mg base 27 "paper" ["claim","side","end"] (Zbd 3 5 Zh5)) (Zbi (N:=["claim","side","end","told","pairs"]) (k:=26) T.t_paper Zk4 (by fail "~U3") ?_)
 intro f cdv A outer s H E hr
 unfold Zh5
 fail "~e F"
 exact Zk4.nd
 fail "~a f"
 refine Zan (Ztw T) (hr.mono (by decide)) ?_ ?_
 fail "~a b i c a e h"
 refine Zam (Zd9 hr.units) ?_ (Zaa (pv 1)) (Za1 _)
 fail "~r"
 exact Zaj Zti Za9
 fail "~e I"
 exact Zk4.nd
 fail "~a f G e C"
 refine Zan (Zoj T).1 (hr.mono (by decide)) ?_ ?_
 fail "~a b m b l b n b s b r b K c a a a a a a d j"
 refine Zzl (cn:=[]) ?_ (Zzn (x := "step") (y0 := "row") (cn:=[]) (ci:=[]) (by decide +kernel)) ?_ ?_ ?_
 fail "~a"
 exact Zcz (Zaa (pv 4))
 fail "~q"
 exact Zh2
 fail "~q i"
theorem Zmz (T:Top K mg) (NB_row_paper:Zr6 K mg base "row_paper"):Fn P w K mg base 28 "row_paper" ["claim"] Zf6:=by
 refine(fun h=>h:_->Fn P w K mg base 28 "row_paper" ["claim"] (Zbd 1 2 Zds)) (Yb0 (N:=["claim","end"]) (k:=27) T.t_row_paper NB_row_paper Zhi (by fail "~U1") ?_)
 intro f c TT A outer s H E ht hC hB hr hnew
 unfold Zds
 fail "~e"
 refine Zz7 (n := "row_paper") (x := "claim") (i:=1) (j:=0) (t:=0) (cx:=s.heap.objs.size+1) (T.t_row_paper.first rfl) (fun _=>rfl) Zhi.nd rfl rfl rfl rfl rfl ht hC hB rfl (by with_unfolding_all rfl) (by with_unfolding_all rfl) (hnew "claim" _ (by with_unfolding_all rfl)) rfl rfl rfl
 fail "~d j"
 refine Zan (Zwt T) (hr.mono (by decide)) ?_ ?_
 fail "~a b i b t b l c a a a"
theorem Ybt (T:Top K mg) (NB_row_paper:Zr6 K mg base "row_paper"):Fn P w K mg base 29 "law" ["script"] Zqf:=by
 refine(fun h=>h:_->Fn P w K mg base 29 "law" ["script"] (Zbd 1 8 Zul)) (Zbi (N:=["script","claim","some","due","rows","more","other","play"]) (k:=28) T.t_law Zxw (by fail "~U1") ?_)
 intro f cdv A outer s H E hr
 unfold Zul
 have nd:=Zxw.nd
 fail "~e"
 refine Za8 (i:=1) ?_ ?_ ?_ ?_
 fail "~g a f"
 refine Zan (Zms T) (hr.mono (by decide)) ?_ ?_
 fail "~a b i b y c a a e U g a f"
 refine Zcq ?_ ?_ Zd1
 fail "~aq a b ar a b i b y c a a b y c a a T e F g a f"
 refine Zaw (Znv hr.units) ?_ ?_ (fun _ _=>rfl)
 refine Zan (Zft T) (hr.mono (by decide)) ?_ ?_
 fail "~a b l c a K e h aG"
 refine Zan (Zmo T) (hr.mono (by decide)) ?_ ?_
 fail "~a b l b K c a a d ai e I g a f"
 refine Zan (Zj2 T) (hr.mono (by decide)) ?_ ?_
 fail "~a b l b"
 refine Zan (Zge T) (hr.mono (by decide)) ?_ ?_
 fail "~a b l b t b i b y b v A c a a a a a c a a e h"
 exact Zam (Zco hr.units) (Zaa (pv 3)) Zbe (Za1 _)
 fail "~d I g a f aC"
 refine Zan (Zj2 T) (hr.mono (by decide)) ?_ ?_
 fail "~a b l b"
 refine Zan (Zmz T NB_row_paper) (hr.mono (by decide)) ?_ ?_
 fail "~a b l c a c a a e p a O u b"
 refine Zcq ?_ Zd1 ?_
 refine Zcq (Zaa (pv 4)) ?_ Zd1
 refine Zgj ?_
 fail "~3 A"
 refine Zca (Znf (by rfl)) ?_ T.n_max Zx5 ?_
 fail "~a b y b k a b s c a c a a T b s c a a Z g a f e 9 g a f x b R b af R W a b 0 c a c a a d h w H aG"
 refine Zan (Zmo T) (hr.mono (by decide)) ?_ ?_
 fail "~a b ad b K c a a Q aG"
 refine Zaw (Znv hr.units) ?_ ?_ (fun _ _=>rfl)
 refine Zan (Zft T) (hr.mono (by decide)) ?_ ?_
 fail "~a b ad c a K d ai e h"
 exact Zam (Zco hr.units) (Zaa (pv 3)) Zbe (Za1 _)
 fail "~d p a O"
 refine Zan (Zoe T) (hr.mono (by decide)) ?_ ?_
 fail "~a b l b t b"
 refine Zaw ixf ?_ Zae (fun _ _=>rfl)
 refine Zan (Ztw T) (hr.mono (by decide)) ?_ ?_
 fail "~a b l c a b K c a a a a"
 refine Zbz (i:=7) ?_ ?_ ?_
 fail "~g a f d h D aE a b s b ae c a a d ai d ai"
theorem Ybw (T:Top K mg) (NB_row_paper:Zr6 K mg base "row_paper"):Fn P w K mg base 29 "law" ["script"] Zqf:=by
 exact Ybt T NB_row_paper
end
theorem walk {l:Tcn} {q:Vh} {loose:List Str} {XP:(Str->Option Vb)->Vz->Prop} {YP:Vu->Vz->Prop} {d:DefRec} {K:Params->Xb} (hn:l.most=some 63) (hdf:d.params.defaults=[])
  (hd:d.name = "law") (hY:∀ (w:Vu) (h:Vz),YP w h->(K w.params).In h) (hrec:∀ n∈(["row_paper"]:List String),((PyProof.Rows.recsOf q).find? (fun e=>e.name==Ua n)).isSome=true) (hT:∀ (w:Vu) (mg:Str->Option Vb) (h:Vz),(K w.params).In h->h.Ns Vl mg->Top (K w.params) mg/\∃ tabs,Tabs (K w.params) ["row_paper"] tabs)
  (pure:∀ ns:List Int,ns.length<=63->∃ Hd',Zqf [.fl (ns.map .int)] (Ze8 ["row_paper"])=some (.bl true,Hd')):Wga q loose XP YP l.row.toRowW d [] (fun f vs=>Tcs f vs):=by
 refine Zwk (k:=29) (x := "script") (G:=Zqf) (names:=["row_paper"]) hn hdf ⟨rfl,by decide,by decide,rfl⟩ hY hrec (fun w mg h KX G=>(hT w mg h KX G).2) (fun w mg fa h KX G hmg=>?_) pure
 have T:=(hT w mg h KX G).1
 obtain⟨f,fd,F,hm⟩:=T.t_law
 have e0:f=fa:=by rw[hd] at hmg; rw[hm] at hmg; cases hmg; rfl
 subst e0
 have B:=F.binds (ps:=["script"]) (fun _ _ _ _ _ _ us hl=>by obtain⟨_,rfl⟩:=us1 hl; rfl)
 refine⟨fd,fun s u=>?_,fun base kb nb NB=>?_⟩
 ·obtain⟨oc,od,kV,doc,pm,an,cdv,ct,osl,rfl,lk,hcd⟩:=F.ex
  exact .of_eq rfl
 ·obtain⟨f',fd',G1,hb,hk,hm',oc',od',osl',lk'⟩:=(Ybw (P:=l.prog) (w:=w) (base:=base) T (NB "row_paper" (by simp))).ex
  have e1:f'=f:=by rw[hm] at hm'; cases hm'; rfl
  subst e1
  have e2:fd'=fd:=by
   obtain⟨oc,od,kV,doc,pm,an,cdv,ct,osl,e3,lk,hcd⟩:=F.ex
   rw[lk] at lk'
   have e4:=Xy.inj lk'
   injection e4 with _ _ e5 _
   injection e5 with e6
   exact e6.symm
  subst e2
  exact G1
end K08
open PySem PySem.W PyProof.Rows L2 DL
local macro_rules | `(tactic| fail $s:str)=>do
 if s.getString.take 1 != "=" then Lean.Macro.throwUnsupported
 let i:=Lean.mkIdent
 match (s.getString.drop 1).toString with
  | "T" => `(tactic| (show Tf (L2.KOf $(i `KX)) _ _ _; dsimp only[L2.KOf]; refine' tf_mk $(i `KX) $(i `G) ?a ?l ?c ?k; (case a=>k_is); (case l=>k_is); (case c=>k_is); (case k=>k_is)))
  | "N" => `(tactic| (refine' PySem.W.mg_none_of $(i `KX) $(i `G) ?z; (case z=>k_is)))
  | _=>Lean.Macro.throwUnsupported
set_option maxRecDepth 100000 in
set_option maxHeartbeats 0 in
theorem PySem.Challenge.cw_allsome_k28_whole_rows_put_to_the_claim_holds : PySem.Challenge.rw_allsome_k28_whole_rows_put_to_the_claim.Holds := by
 w_on; o_law; refine holds_open (q:=(PySem.Challenge.vwOf PySem.Challenge.pw_allsome_k28_whole_rows_put_to_the_claim)) (loose:=[]) (Xt:=PySem.Challenge.xt0) (XP:=XL (PySem.Challenge.vwOf PySem.Challenge.pw_allsome_k28_whole_rows_put_to_the_claim) []) (Yf:=Hook.obs PySem.Challenge.hk0) (Ya:=Hook.val PySem.Challenge.hk0) (YP:=InK PySem.Challenge.mk0.heap_39) (N:=4650) PySem.Challenge.left0 (Hook.of PySem.Challenge.hk0) (Hook.keeps PySem.Challenge.hk0) (fun s e=>xl_of s (Wex.mp e).1) XL.keeps (by rfl) (by rfl) (by rfl) (fun s e=>recFacts_of (Wex.mp e).2) (by rfl) (by assumption) (by decide +kernel) ⟨rfl,rfl,rfl,rfl,rfl,by decide +kernel⟩ ?hw ?hc
 (case hw=>w_witness2)
 k_fill
 refine K08.walk (l:=PySem.Challenge.rw_allsome_k28_whole_rows_put_to_the_claim) rfl rfl rfl (fun w h Y=>Y) ?R ?T K08.pure_law
 case R=>decide +kernel
 case T =>
  intro w mg h KX G
  have t_row_paper:Tn (L2.KOf KX) mg "row_paper" K08.s_row_paper:=by
   dsimp only[L2.KOf]
   refine' tn_mk KX G ?a ?l ?c ?k ?m ?v
   (case a=>k_is); (case l=>k_is); (case c=>k_is); (case k=>k_is); (case m=>k_is); (case v=>rfl)
  have c_TRUTHS:Gc (L2.KOf KX) mg "TRUTHS" K08.k_TRUTHS:=by
   dsimp only[L2.KOf]
   refine' Zu4 KX G ?a ?l
   (case a=>k_is); (case l=>k_is)
  have v_claims_row:Fv (L2.KOf KX) mg "claims_row" := by
   dsimp only[L2.KOf]
   refine' fv_mk KX G ?za
   (case za=>k_is)
  refine' ⟨⟨by fail "=T",by fail "=T",by fail "=T",by fail "=T",by fail "=T",by fail "=T",by fail "=T",by fail "=T",by fail "=T",by fail "=T",by fail "=T",by fail "=T",by fail "=T",by fail "=T",by fail "=T",by fail "=T",by fail "=T",by fail "=T",by fail "=T",by fail "=T",by fail "=T",by fail "=T",by fail "=T",by fail "=T",by fail "=T",by fail "=T",by fail "=T",by fail "=T",by fail "=T",by fail "=T",by fail "=T",by fail "=T",by fail "=T",by fail "=T",by fail "=T",by fail "=T",by fail "=T",by fail "=T",by fail "=T",by fail "=T",by fail "=T",by fail "=T",by fail "=T",by fail "=T",by fail "=T",by fail "=T",t_row_paper,by fail "=T",by fail "=N",by fail "=N",by fail "=N",by fail "=N",by fail "=N",by fail "=N",by fail "=N",by fail "=N",by fail "=N",by fail "=N",by fail "=N",by fail "=N",by fail "=N",by fail "=N",c_TRUTHS,v_claims_row⟩,Zvo t_row_paper rfl ?tn⟩
  (case tn=>kernel_rfl)
