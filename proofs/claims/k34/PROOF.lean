import PyProof.Rows.All
import Wide.All
import Wide.FinOn
import Lean
import PyProof.EqAt
import PyProof.EqKinds
import PyProof.TupleCall
import KE.KDictList
import KE.KDictOf
import KE.KIntText
import KE.KItemsList
import KE.KNest
import KE.KSortKey
import KE.KSortTup
import KE.KTryMore
import PyProof.AttrMissHeap
import PyProof.AutoSeq1
import PyProof.ExcAttrAll.ValueError
import PyProof.FitsBits
import PyProof.MeetsStr2
import PyProof.MinMaxWalk
import PyProof.P3Eq
import PyProof.P3In
import PyProof.ReprLen
import PyProof.Rows.DictRows
import PyProof.Rows.Own
import PyProof.Rows.RuleB_bool
import PyProof.Rows.TupIter
import PyProof.SeqI3
import PyProof.StrBlockG
import PyProof.StrOps2
import PyProof.StrWalks
import PyProof.SumWalkG
import PyProof.TupleOfSeq
import PyProof.WalkInts
import KE.KNest
import KE.KDictList
import KE.KSortAsk
import KE.KSortKey
import KE.KTryMore
import PySem.Challenge.RW_allsome_k34_played_by_term_papers
set_option Elab.async false
set_option compiler.extract_closed false
set_option bootstrap.genMatcherCode false
set_option linter.all false
set_option maxRecDepth 100000
open PySem.Str renaming ofString → Ua
open PySem.PyData renaming eqv → Ub, eqvAll → Uq, canLay0 → Tad, canLayAll0 → Tah, depth → Tam, strOk → Tan, depthAll → Tbv, bool → Tco
open PySem.Builtin.SmallTypes renaming ownedTupleIsFree → Uc, ownedTupleHandOut → Ud
open PySem.NameKind renaming free → Ue, cell → Tab
open PyProof.Rows renaming slot_tuple_getitem → Uf, callWith_type1 → Ug
open PySem renaming mem_of_lookup → Uh, sizeLine_eq → Uz, seqSlot_of → Tcm, call → Tct
open PySem.F renaming slot_enumerate_next → Ui, slot_list_append → Uk, type_list_append → Ul, slot_dict_keyiterator_next → Um, slot_dict_setdefault → Us, slot_tuple_iterator_next → Uu, args_enumerate_next_1 → Tac, entry_enumerate_next → Tae, type_dict_setdefault → Taf, slot_tuple_mul → Taj, args_tuple_add_2 → Tak, entry_tuple_add → Tao, slot_tuple_add → Taq, args_dict_keyiterator_next_1 → Tar, slot_bool_hash → Tas, entry_dict_keyiterator_next → Tat, args_tuple_iterator_next_1 → Tav, slot_int_rmul → Taz, entry_tuple_iterator_next → Tbb, slot_zip_next → Tbc, args_tuple_mul_2 → Tbj, entry_tuple_mul → Tbl, typeCall_enumerate_1 → Tbp, newCall_enumerate_1 → Tbr, entry_enumerate_new → Tbs, slot_dict_len → Tbt, args_object_init_2 → Tca, called_enumerate → Tce, args_int_rmul_2 → Tci, args_zip_next_1 → Tck
open False renaming elim → Uj
open Ne renaming symm → Uo
open PySem.Value renaming none → Ur, ref → Ux, bool → Tbw, type → Tbx
open PySem.Builtin.List renaming listExtendWith → Ut, listTooLong → Tal
open PySem.Builtin.Slice renaming slicePlaces → Uv, sliceAdjust → Tai, sliceApplied → Tbf
open Decidable renaming byContradiction → Uw
open PySem.Builtin.Tuple renaming tupleExact → Uy, tupleItemsOf → Tbg, tupleTooMany → Tbh, tupleIsExact → Tbi, tupleHashOf → Tbk
open PySem.Builtin.Range renaming rangeSize → Taa, small → Tcd
open ForInStep renaming yield → Tag
open PySem.Obj renaming data_mapFields → Tap, mapSeq → Tax, isFreed_of_fields → Tbq, data_mapDictKeys → Tcb, cls_mapFields → Tcj
open Or renaming inr → Tau, inl → Tba
open PySem.Builtin.Dict_items renaming ownsTuple → Taw
open True renaming intro → Tay
open PySem.PassesOwn renaming never → Tbd
open PySem.Calls renaming Name_function_global → Tbe, callWith_builtin → Tbo, evalArgs_plain → Tbz
open PySem.AutoSeq1 renaming idx_int → Tbm
open PyProof renaming noPylong_small → Tbn
open PySem.Builtin.Dict renaming showsAll → Tbu
open PySem.Around renaming frames_deeper → Tby
open PySem.Shared renaming heap → Tcc
open PySem.Code renaming quiet_builtin → Tcf
open Sum renaming inl → Tcg, inr → Tch
open Function renaming comp_def → Tcl
open PySem.W renaming OpenLaw → Tcn
open PySem.SeqAt.EqAt renaming bool_bool → Tcp, int_bool → Tcq, bool_int → Tcr
open PySem.FuncBody renaming stmts → Tcs
open PySem.Paired renaming length → Tcu
open PyProof.Rows.KskEnd renaming intro → Tcv
open PySem.IsRange renaming new → Tcw
open Lean in
local macro_rules (kind:=Lean.Parser.Command.declaration) | d=>do
 if d[0].getArgs.any (fun x=>x[0].isOfKind `Lean.Parser.Command.nonrec) then return d.setArg 0 (<- `(command| noncomputable def a:=1)).raw[0]
 else Macro.throwUnsupported
open PySem renaming wpAny_bind → Va, Value → Vb, wpAny_pure → Vc, Shared → Vd, Addr → Ve, wpAny → Vf, starEach → Vg, wpAny_callSpecial?_slot → Vh, Program → Vi, Paired → Vj, wpAny_setField_rec → Vk, mainGlobals → Vl, model → Vm, wpAny_field → Vn, wpAny_call_entry → Vo, bootBuiltins → Vp, compareOp → Vq, wpAny_loadPart' → Vr, wpAny_newObj_type → Vs, Around → Vt, World → Vu, wpAny_truthy_bool → Vv, Expr → Vw, foldedSetIterable → Vx, binaryOp → Vy, PyData → Vz, Heap → Uaa, Stmt → Uab, wpAny_typeNameOfWhole_keyiter → Uac, lookup_relabel_local → Uad, wpAny_holding → Uae, sysModules → Uaf, rawInt → Uag, wpAny_seqItems → Uah, wpAny_passesOwn → Uai, DictEntry → Uaj, wpAny_pyIter_list → Uak, wpAny_attempt → Ual, backTo → Uam, wpAny_mono → Uan, assignEach → Uao, wpAny_Call_Name_kw → Uap, FuncData → Uaq, wpAny_dictEntries → Uar, IsPair → Uat, wpAny_comprehension_free → Uau, behindInMarks → Uav, NameKind → Uaw, IsEnum → Uay, wpAny_pyIter_tuple → Uaz, sizeLine_eq → Ubb, sliceBounds → Ubc, wpAny_rule → Ubd, wpAny_pyIter_enum → Ube, tupleKind → Ubf, pyNext → Ubg, wpAny_isInstance → Ubh, wpAny_updateSeq_pair → Ubi, Scope → Ubj, call_meets → Ubk, keywordEach → Ubl, wpAny_letGo → Ubm, codeAny_builtin → Ubn, wpAny_newFunctionEnv_cells → Ubo, wpAny_letOwnedTupleGo_enum → Ubp, codeAny_mono → Ubq, compEnvC → Ubr, wpAny_binaryOp_repeat_ref → Ubs, wpAny_setField → Ubt, firstArgMember → Ubu, isSubtype_stop → Ubv, wpAny_standAt → Ubw, Keyword → Ubx, wpAny_newList → Uby, wpAny_onRaise → Ubz, noFill_tuple_add → Uca, wpAny_pyNext_range_end → Ucb, wpAny_pyIter_rangeiter → Ucc, wpAny_Call_method_late → Uce, codeAny_compStart_list → Ucf, wpAny_execs_nil → Uci, swapsWith → Ucj, letOwnedTupleGo → Uck, codeAny → Ucl, codeAny_call_function → Ucm, wpAny_typeOf → Ucn, IsEnumOut → Uco, wpAny_notOrdered_dict → Ucp, wpAny_dictEpoch → Ucq, wpAny_isOneOf_keyiter → Ucr, bindArgs → Ucs, typeIs_int → Uct, wpAny_loadName_local → Ucu, wpAny_newFunctionEnv → Ucv, wpAny_pyIter_keyiter → Ucw, assign → Ucz, wpAny_newTuple → Uda, dictSetDefault → Udb, wpAny_loadName_cell → Udc, holding → Udd, IsRangeIter → Ude, getItem → Udf, field → Udg, IsZip → Udi, seq_tuple_add → Udj, IsPart → Udk, attributeBase → Udl, backToKw → Udm, setField → Udn, ZipApart → Udo, callerA → Udp, concat_meets → Udr, callType_new → Uds, Operator → Udt, hashInt → Udu, storeName → Udv, PassesOwn → Udw, lastMarks → Udx, cellsFrom → Udy, Arguments → Udz, wpAny_mkInt → Uea, storedH → Ueb, stored → Ued, newList → Uef, CmpOp → Ueg
open PyProof.Rows renaming seqObj → Uas, IntsAre → Uax, envOfC → Uba, subscriptTail_builtinR → Ucd, call_function_entry_kw → Ucg, AllBare → Uch, entry_proto_collect' → Ucx, callWith_builtin_kwB → Ucy, wpAny_call_entry_kw → Udh, call_abs_int → Udq, IsTup → Uee
open PySem.W renaming tabIn → Uec
open PySem.Heap renaming get?_push_of_some → Xa, lt_size → Xe, get?_push_size → Xf, SameBut → Wad, size_push → Way, get?_update_self → Wdh, ExtBut → Wdp
open PySem.W renaming Frag → Xb, fnOf → Wbi, kia_one → Wcc, keepIn → Wcg, codeIn → Wcs, nsIn → Wcw, cellsFrom_some → Wdc, methodObj → Wdz, callWith_K → Wfa, codeRec_of → Wfb, mg_of → Wfc, kitx_list → Wfh, WalkO → Wgd
open List renaming getElem?_eq_some_iff → Xc, getElem?_eq_getElem → Xg, getElem?_append_left → Xh, mem_cons → Xj, map_cons → Xl, mem_append → Xm, mem_map → Xn, length_map → Xo, size_toArray → Xp, length_append → Xq, getElem?_map → Xr, all_eq_true → Xs, getElem?_append_right → Xu, replicate → Xv, mem_append_right → Xw, getD_eq_getElem?_getD → Xx, getElem_mem → Xy, mem_of_getElem? → Xz, mem_filter → Waa, append_nil → Wab, append_assoc → Wae, length_filter_le → Wai, map_append → Waj, mem_append_left → Wak, exists_cons_of_length_eq_add_one → Wal, lookup_cons → Wam, mem_cons_of_mem → Wao, getElem?_set_ne → Wap, nodup_append → Waq, drop_eq_getElem_cons → War, length_take → Wat, any_eq_true → Wau, nodup_cons → Wav, map_map → Waw, filter_sublist → Wax, filter_cons_of_neg → Wba, getElem?_set_self → Wbc, cons → Wbe, getLast?_eq_some_iff → Wbg, getElem?_take_of_lt → Wbh, length_singleton → Wbj, mem_range → Wbk, filter_map → Wbn, length → Wbo, replicate_succ → Wbp, not_mem_nil → Wbq, getElem?_replicate → Wbr, filter_cons_of_pos → Wbs, length_nil → Wbu, cons_append → Wbv, mem_iff_getElem? → Wbw, mem_singleton → Wbx, getElem?_eq_none → Wby, flatten_cons → Wca, find?_cons → Wcd, getElem?_cons_succ → Wce, find?_cons_of_neg → Wch, filter_eq_nil_iff → Wci, mem_cons_self → Wcj, zip_cons_cons → Wck, filter_append → Wcl, set_getElem_self → Wcm, all_cons → Wcn, any_eq_false → Wco, map_drop → Wcp, mem_iff_getElem → Wcq, getLast?_append → Wcr, range → Wcv, mem_filterMap → Wcx, of_mem_zip → Wcy, nil_append → Wcz, length_eq_zero_iff → Wda, any_cons → Wdb, drop_eq_nil_of_le → Wdd, find?_cons_of_pos → Wdf, getElem?_set → Wdg, take_append_drop → Wdi, length_drop → Wdj, take_append_of_le_length → Wdk, mem_flatMap → Wdl, mem_of_getLast? → Wdm, filterMap_cons → Wdn, map_congr_left → Wdq, getElem?_concat_length → Wdr, map_nil → Wdt, pairwise_cons → Wdu, lookup_append → Wdv, getLast?_cons → Wdw, getElem?_zip_eq_some → Wdx, mem_of_find?_eq_some → Wdy, foldl → Wea, pairwise_map → Web, reverse_cons → Wec, length_cons → Wee, getElem_zip → Wef, take_of_length_le → Weg, drop_of_length_le → Weh, range_succ_eq_map → Wei, length_replicate → Wej, forIn_cons → Wek, length_zip → Wer, mem_of_mem_drop → Weu, lookup → Wew, getElem_of_mem → Wex, mem_map_of_mem → Wez, map_take → Wfe, take_sublist → Wff, getElem?_inj → Wfg, ext_getElem? → Wfi, flatMap_cons → Wfk, filter_congr → Wfl, map_id' → Wfo, any_map → Wfp, getElem_inj → Wfq, zipIdx_cons → Wft, zipIdx_nil → Wfw, find?_some → Wfy, all_append → Wfz, forIn_nil → Wgb, take_left → Wgc
open Nat renaming le_refl → Xd, ne_of_lt → Xi, lt_of_lt_of_le → Xk, le_trans → Wag, lt_irrefl → Waz, zero_le → Wbm, ne_of_gt → Wbt, pow_le_pow_right → Wbz, lt_succ_of_lt → Wcb, le_of_lt → Wds, le_succ → Wed, zero_add → Wep, sub_self → Weq, pow_succ → Wet, mul_comm → Wfm, add_zero → Wfn, succ_ne_self → Wfs, succ_le_succ → Wfu, not_lt_zero → Wfv, min_eq_left → Wfx
open Option renaming some → Wac, isSome_iff_exists → Wan, map_some → Wel, isSome_map → Wfj, getD_none → Wfr
open Int renaming toNat_natCast → Waf, emod_lt_of_pos → Was, emod_nonneg → Wbf, toNat_of_nonneg → Wcf, le_refl → Wcu
open Bool renaming and_eq_true → Wah, false_eq_true → Wbb, false_ne_true → Wbl, or_eq_true → Wem, eq_iff_iff → Wen, not_not → Wes, and_eq_true_iff → Wev, false_and → Wga
open Prod renaming mk → Wbd
open Array renaming getElem?_eq_getElem → Wct, getElem?_eq_none → Wde, length_toList → Wdo, getElem?_toList → Weo, toList_append → Wey, empty_append → Wfd
theorem Zo {α β:Type} {x:Option α} {f:α->Option β} {b:β} (h:x.bind f=some b):∃ a,x=some a/\f a=some b:=Option.bind_eq_some_iff.1 h
theorem Zm {α β:Type} {x:Option α} {f:α->β} {b:β} (h:x.map f=some b):∃ a,x=some a/\f a=b:=Option.map_eq_some_iff.1 h
theorem Zb {α β:Type} (a:α) (f:α->Option β):(some a).bind f=f a:=rfl
namespace PySem.W
open PySem
/-! the top run on a tree -/
def treeOf:List Obj->Nat->BT->Option BT
  | [],_,t=>some t
  | o::r,i,t=>match ((t.ins i o).get i).isSome with
    | true=>treeOf r (i+1) (t.ins i o)
    | false=>none
theorem treeOf_abs {life}:∀ (l:List Obj) (i:Nat) (t T:BT),treeOf l i t=some T->absHeap T (i+l.length) life=⟨(absHeap t i life).objs++l.toArray,life⟩
  | [],i,t,T,h=>by cases h; simp[absHeap]
  | o::r,i,t,T,h=>by
    unfold treeOf at h
    cases e:((t.ins i o).get i).isSome with
    | false=>rw[e] at h; cases h
    | true =>
      rw[e] at h
      have a:=treeOf_abs (life:=life) r (i+1) (t.ins i o) T h
      rw[absHeap_ins e] at a
      rw[List.length_cons,show i+(r.length+1)=i+1+r.length by omega,a]
      simp[Heap.push]
def topRunT (tb:String->Option Builtin) (p:Program) (w:World) (n₀:Nat) (ann:Option Value):Nat->SharedT->Thread->Option SharedT
  | 0,_,_=>none
  | n+1,s,t=>match through t with
    | true=>some s
    | false=>match stepOk n₀ ann t with
      | false=>none
      | true=>match stepT (denote tb) p w s t with
        | some (s',t')=>topRunT tb p w n₀ ann n s' t'
        | none=>none
theorem topRun_of {tb:String->Option Builtin} {p:Program} {w:World} {n₀:Nat} {ann:Option Value}:∀ {n:Nat} {s s':SharedT} {t:Thread},topRunT tb p w n₀ ann n s t=some s'->topRun tb p w n₀ ann n s.abs t=some s'.abs
  | 0,_,_,_,h=>by cases h
  | n+1,s,s',t,h=>by
    unfold topRunT at h
    unfold topRun
    cases he:through t with
    | true=>rw[he] at h; cases h; rfl
    | false =>
      rw[he] at h
      cases hk:stepOk n₀ ann t with
      | false=>rw[hk] at h; cases h
      | true =>
        rw[hk] at h
        cases hs:stepT (denote tb) p w s t with
        | none=>rw[hs] at h; cases h
        | some r=>obtain⟨s₂,t₂⟩:=r; rw[hs] at h; rw[stepT_spec hs]; exact topRun_of h
def topT (tb:String->Option Builtin) (p:Program) (w:World) (N:Nat) (s₀:Shared):Option Shared :=
  match s₀.heap.isNs mainGlobals&&s₀.gens.size==0 with
  | true=>(treeOf s₀.heap.objs.toList 0 .nil).bind fun T=>(topRunT tb p w s₀.heap.objs.size (s₀.heap.nsMap mainGlobals "__annotations__") N ⟨T,s₀.heap.objs.size,s₀.heap.life,s₀.gens,s₀.drawn,s₀.toks,s₀.os⟩ (topStub p)).bind fun s₁ =>
    match staticsOk (importedModules p.main.body) s₀.heap s₁.abs.heap&&namesBound p s₁.abs.heap&&gensDone s₁.abs&&laidKept s₀.heap s₁.abs.heap with
    | true=>some s₁.abs
    | false=>none
  | false=>none
theorem topT_of {tb:String->Option Builtin} {p:Program} {w:World} {N:Nat} {s₀ r:Shared} (h:topT tb p w N s₀=some r):topFrom tb p w N s₀=some r:=by
  unfold topT at h
  unfold topFrom
  cases e:(s₀.heap.isNs mainGlobals&&s₀.gens.size==0) with
  | false=>rw[e] at h; cases h
  | true =>
    rw[e] at h
    obtain⟨T,h1,h⟩:=Option.bind_eq_some_iff.mp h
    obtain⟨s₁,h2,h⟩:=Option.bind_eq_some_iff.mp h
    have a:=treeOf_abs (life:=s₀.heap.life) _ _ _ _ h1
    have b:=topRun_of h2
    have c:(SharedT.mk T s₀.heap.objs.size s₀.heap.life s₀.gens s₀.drawn s₀.toks s₀.os).abs=s₀:=by
      unfold SharedT.abs
      have z:absHeap T s₀.heap.objs.size s₀.heap.life=s₀.heap:=by
        have a':=a
        rw[Nat.zero_add] at a'
        rw[show s₀.heap.objs.size=s₀.heap.objs.toList.length by simp,a']
        obtain⟨⟨objs,life⟩,g,d,t,o⟩:=s₀
        simp[absHeap,BT.list]
      show Shared.mk (absHeap T s₀.heap.objs.size s₀.heap.life) s₀.gens s₀.drawn s₀.toks s₀.os=s₀
      rw[z]
    rw[c] at b
    rw[b]
    exact h
end PySem.W
section
open PySem PySem.W PyProof.Rows
nonrec def PySem.Challenge.vwOf (p:Vi):Vi:={ p with main:={ p.main with body:=[1,2,3,4,5,7,8,9,11,12,13,15,16,17,18,19,21,22,23,24,25,26,27,28,29,30,31,32,33,34,36,37,38,39,40,42,43,44,46,47,48,49,50,51,52,53,54,55,56,57,58,59,60,61,62,63,64,65,66,67,68].filterMap fun i=>p.main.body[i]? } }
local macro_rules | `(tactic| o_head $_) => `(tactic| exact Uj (by assumption))
set_option maxRecDepth 100000 in
set_option maxHeartbeats 0 in
theorem PySem.Challenge.mk0:False->PySem.Challenge.rw_allsome_k34_played_by_term_papers.Holds:=by
 intro f; w_on; o_law; k_head
nonrec def PySem.Challenge.hk0:Hook:=kHook PySem.Challenge.mk0.heap_39 [2,3,15,16,18,19,21,22,23,25,26,28,29,30,32,33,35,36,37,39,40,42,43,44,51,52,53,54,57,64,66,67,69,70,71,72,73,76,83,84,85,88,90,91,93,94,95,97,98,100,101,102,104,105,107,108,109,112,113,114,116,117,119,120,121,123,124,126,127,128,130,131,133,134,135,137,138,140,141,142,144,145,147,148,149,151,152,154,155,156,158,159,161,162,163,166,167,168,170,171,173,174,175,177,178,180,181,182,184,185,187,188,189,191,192,194,195,196,198,199,201,202,203,205,206,208,209,210,212,213,215,216,217,219,220,222,223,224,226,227,229,230,231,234,235,236,239,240,241,243,244,246,247,248,250,251,253,254,255,257,258,260,261,262,264,265,267,268,269,272,273,274,277,278,279,281,282,284,285,286,288,289,291,292,293,295,296,298,299,300,302,303,305,306,307,309,310,312,313,314,316,317,319,320,321,324,325,326,328,329,331,332,333,335,336,338,339,340,343,344,345,347,348,350,351,352,354,355,357,358,359,362,363,364,366,367,369,370,371,374,375,376,379,380,388,391,392,393,396,397,398,401,402,403,405,406,408,409,410,413,414,415,418,419,420,422,423,425,426] (fun _=>by kernel_rfl)
nonrec def PySem.Challenge.xt0 (s:Vd):Bool:=xlAt (PySem.Challenge.vwOf PySem.Challenge.pw_allsome_k34_played_by_term_papers) [] s&&recOk (RowW.records (OpenRow.toRowW (OpenLaw.row PySem.Challenge.rw_allsome_k34_played_by_term_papers))) s
set_option maxRecDepth 100000 in
theorem PySem.Challenge.left123456789 (w:World) (os:OsState):(topT treeTable (OpenLaw.row PySem.Challenge.rw_allsome_k34_played_by_term_papers).prog w 5068 ⟨boot_heap w.params,Array.mk [],boot_drawn,boot_toks,os⟩).map (fun s=>openSeen (PySem.Challenge.vwOf PySem.Challenge.pw_allsome_k34_played_by_term_papers) [] (importedModules (OpenLaw.row PySem.Challenge.rw_allsome_k34_played_by_term_papers).prog.main.body) PySem.Challenge.xt0 true s)=some (openGood (PySem.Challenge.vwOf PySem.Challenge.pw_allsome_k34_played_by_term_papers) []):=by
 unfold PySem.Challenge.xt0
 try rewrite[PySem.W.Fast.te4187177175401517315]
 try rewrite[PySem.W.Fast.te5923862056798008813]
 try rewrite[PySem.W.Fast.te2368527892694137696]
 try rewrite[PySem.W.Fast.te17247232908230656718]
 try rewrite[PySem.W.Fast.te17701025929544208303]
 try rewrite[PySem.W.Fast.te14364793385576792824]
 kernel_rfl
set_option maxRecDepth 100000 in
theorem PySem.Challenge.leftc (w:World) (os:OsState):(topT treeTable (OpenLaw.row PySem.Challenge.rw_allsome_k34_played_by_term_papers).prog w 5068 ⟨boot_heap w.params,Array.mk [],boot_drawn,boot_toks,os⟩).map (fun s=>PySem.Challenge.hk0.obs s)=some (PySem.Challenge.hk0.val w):=by
 try rewrite[PySem.W.Fast.te4187177175401517315]
 try rewrite[PySem.W.Fast.te5923862056798008813]
 try rewrite[PySem.W.Fast.te2368527892694137696]
 try rewrite[PySem.W.Fast.te17247232908230656718]
 try rewrite[PySem.W.Fast.te17701025929544208303]
 try rewrite[PySem.W.Fast.te14364793385576792824]
 kernel_rfl
theorem PySem.Challenge.left0:LeftO (OpenLaw.row PySem.Challenge.rw_allsome_k34_played_by_term_papers).prog (PySem.Challenge.vwOf PySem.Challenge.pw_allsome_k34_played_by_term_papers) [] PySem.Challenge.xt0 PySem.Challenge.hk0.obs PySem.Challenge.hk0.val 5068:=fun w=>by
 obtain⟨⟨h,g,d,t,os⟩,hs,hv⟩:=Option.map_eq_some_iff.mp (boot_open (p:=(OpenLaw.row PySem.Challenge.rw_allsome_k34_played_by_term_papers).prog) (N:=5068) (by kernel_rfl) (by kernel_rfl) (fun s=>by kernel_rfl) w)
 obtain⟨e1,hv⟩:=Prod.mk.inj (show (h,g,d,t)=_ from hv)
 obtain⟨e2,hv⟩:=Prod.mk.inj hv
 obtain⟨e3,e4⟩:=Prod.mk.inj hv
 subst e1; subst e2; subst e3; subst e4
 obtain⟨r,h1,hc⟩:=Option.map_eq_some_iff.mp (PySem.Challenge.leftc w os)
 have h123456789:=PySem.Challenge.left123456789 w os
 rw[h1,Option.map_some] at h123456789
 replace h123456789:=Option.some.inj h123456789
 unfold openEnds
 rw[hs,Option.bind_some,topT_of h1]
 exact congrArg some (Prod.ext h123456789 hc)
end
namespace L2
open PySem PySem.Spec PyProof.Rows
nonrec abbrev Key:=Sum Int Str
nonrec def Yd0:Key->Vb->Bool
 | .inl k,v=>Value.isInt k v
 | .inr x,v=>Value.isStrOf x v
nonrec def keyH (w:Vu):Key->Int
 | .inl k=>Udu k
 | .inr x=>hashStr w x
theorem Zbp:∀ {k:Key} {v:Vb},Yd0 k v=true->(∃ i t,k=Tcg i/\v=Value.int i t)\/(∃ x t,k=Tch x/\v=Value.str x t)
 | .inl i,v,h=>by
  obtain⟨t,e⟩:=Value.isInt_shape (k:=i) (v:=v) h
  exact .inl ⟨i,t,rfl,e⟩
 | .inr x,v,h=>by
  obtain⟨t,e⟩:=Value.isStrOf_shape (x:=x) (v:=v) h
  exact .inr ⟨x,t,rfl,e⟩
theorem Yda (a b:Int):decide ((Tcg a:Key)=Tcg b)=(a==b):=by
 by_cases e:a=b
 ·subst e; simp
 ·have h:¬ (Tcg a:Key)=Tcg b:=fun q=>e (Sum.inl.inj q)
  rw[decide_eq_false h]
  exact(beq_eq_false_iff_ne.mpr e).symm
theorem Yc3 (a b:Str):decide ((Tch a:Key)=Tch b)=decide (a=b):=by
 by_cases e:a=b
 ·subst e; simp
 ·have h:¬ (Tch a:Key)=Tch b:=fun q=>e (Sum.inr.inj q)
  rw[decide_eq_false h,decide_eq_false e]
theorem Ydi (a:Int) (b:Str):decide ((Tcg a:Key)=Tch b)=false:=decide_eq_false (fun q=>nomatch q)
theorem Yeh (a:Str) (b:Int):decide ((Tch a:Key)=Tcg b)=false:=decide_eq_false (fun q=>nomatch q)
nonrec def Zph (prog:Vi) (w:Vu):PySem.KeyKind prog w Key where
 is:=Yd0
 hash:=keyH w
 inj:=fun v a b ha hb=>by
  rcases Zbp ha with ⟨i,t,rfl,rfl⟩ | ⟨x,t,rfl,rfl⟩
  ·rcases Zbp hb with ⟨j,u,rfl,e⟩ | ⟨y,u,rfl,e⟩
   ·injection e with e1 _; rw[e1]
   ·exact nomatch e
  ·rcases Zbp hb with ⟨j,u,rfl,e⟩ | ⟨y,u,rfl,e⟩
   ·exact nomatch e
   ·injection e with e1 _; rw[e1]
 byValue:=fun k v h=>by
  rcases Zbp h with ⟨i,t,rfl,rfl⟩ | ⟨x,t,rfl,rfl⟩<;>rfl
 pyHash:=fun hv h=>by
  rcases Zbp hv with ⟨i,t,rfl,rfl⟩ | ⟨x,t,rfl,rfl⟩
  ·exact wpAny_pyHash_int h
  ·exact wpAny_pyHash_str h
 eqBool:=fun hu hv h=>by
  rcases Zbp hu with ⟨i,t,rfl,rfl⟩ | ⟨x,t,rfl,rfl⟩
  ·rcases Zbp hv with ⟨j,u,rfl,rfl⟩ | ⟨y,u,rfl,rfl⟩
   ·rw[Yda] at h; exact wpAny_eqBool_int h
   ·rw[Ydi] at h; exact SeqAt.EqAt.int_str i t y u _ _ _ _ h
  ·rcases Zbp hv with ⟨j,u,rfl,rfl⟩ | ⟨y,u,rfl,rfl⟩
   ·rw[Yeh] at h; exact SeqAt.EqAt.str_int x t j u _ _ _ _ h
   ·rw[Yc3] at h; exact wpAny_eqBool_str h
 «strs»:=fun k x t v h=>by
  rcases Zbp h with ⟨i,u,rfl,e⟩ | ⟨y,u,rfl,e⟩
  ·exact nomatch e
  ·injection e with e1 _
   subst e1
   cases v<;>rfl
inductive V where
 | non | bl (b:Bool) | int (i:Int) | str (x:Str) | byt (b:Array UInt8) | flt (b:UInt64) | ref (a:Ve) | ty (n:String)
nonrec def Zcg:V->Vb->Prop
 | .non,u=>u=Ur
 | .bl b,u=>u=Tbw b
 | .int i,u=>∃ t,u=Value.int i t
 | .str x,u=>∃ t,u=Value.str x t
 | .byt b,u=>∃ t,u=Value.bytes b t
 | .flt b,u=>∃ t,u=Value.float b t
 | .ref a,u=>u=Ux a
 | .ty n,u=>u=Tbx n
nonrec abbrev Zb7:List V->List Vb->Prop:=Vj Zcg
theorem Zb7.length {xs:List V} {us:List Vb} (r:Zb7 xs us):xs.length=us.length:=Tcu r
theorem Zb7.get:∀ {xs:List V} {us:List Vb} {i:Nat} {x:V},Zb7 xs us->xs[i]? = some x->∃ u,us[i]? = some u/\Zcg x u
 | _,_,_,_,.nil,e=>by simp at e
 | _,_,0,_,.cons r _,e=>by simp at e; subst e; exact⟨_,rfl,r⟩
 | _,_,i+1,x,.cons _ t,e=>by
  obtain⟨u,h1,h2⟩:=Zb7.get (i:=i) (x:=x) t (by simpa using e)
  exact⟨u,by simpa using h1,h2⟩
theorem Zb7.append:∀ {xs ys:List V} {us ws:List Vb},Zb7 xs us->Zb7 ys ws->Zb7 (xs++ys) (us++ws)
 | _,_,_,_,.nil,s=>s
 | _,_,_,_,.cons r t,s=>.cons r (Zb7.append t s)
theorem Zb7.take:∀ {xs:List V} {us:List Vb} (n:Nat),Zb7 xs us->Zb7 (xs.take n) (us.take n)
 | _,_,0,_=>.nil
 | _,_,_+1,.nil=>.nil
 | _,_,n+1,.cons r t=>.cons r (Zb7.take n t)
theorem Zb7.drop:∀ {xs:List V} {us:List Vb} (n:Nat),Zb7 xs us->Zb7 (xs.drop n) (us.drop n)
 | _,_,0,r=>r
 | _,_,_+1,.nil=>.nil
 | _,_,n+1,.cons _ t=>Zb7.drop n t
nonrec def RelO:Option V->Option Vb->Prop
 | some v,some u=>Zcg v u
 | none,none=>True
 | _,_=>False
nonrec def KV {κ:Type}:List (κ×V)->List (κ×Vb)->Prop:=Vj fun(p:κ×V) (q:κ×Vb)=>p.1=q.1/\Zcg p.2 q.2
nonrec def kV:Key->V
 | .inl i=>.int i
 | .inr x=>.str x
inductive HO where
 | lst (xs:List V)
 | tup (xs:List V)
 | dK (kvs:List (Key×V)) | dT (kvs:List (List Key×V))
 | set (S:Int->Bool) (n:Nat)
 | ins (C dx:Ve) (fs:List (Str×V))
 | own (x:Ve)
 | xd (fs:List (Str×V))
 | met (f x:Ve)
 | rng (lo hi:Int)
 | frz (o:Obj) (u:HO)
 | tbl (ps:Array Vb)
 | ext (φ:Uaa->Prop)
nonrec abbrev Hp:=Ve->Option HO
nonrec def upd (H:Hp) (a:Ve) (o:HO):Hp:=fun b=>if b=a then some o else H b
theorem Zas {H:Hp} {a:Ve} {o:HO}:upd H a o a=some o:=by unfold upd; rw[if_pos rfl]
theorem Zah {H:Hp} {a b:Ve} {o:HO} (h:b≠a):upd H a o b=H b:=by unfold upd; rw[if_neg h]
theorem Zm3 {H:Hp} {a b:Ve} {o u:HO} (h:H a=some o) (h':H b=some u) (d:o≠u):a≠b:=by
 intro e; subst e; rw[h] at h'; exact d (Wac.inj h')
theorem Zai {H:Hp} {a b:Ve} {o:HO} (h:H a=some o) (h':H b=none):a≠b:=by
 intro e; subst e; rw[h] at h'; cases h'
def Zmc (h:Uaa) (a:Ve) (items:Array Vb):Prop:=∃ o,h.get? a=some o/\o.cls=.type "tuple" /\ (∃ n,o.data=.seq items n)/\o.dict=none
theorem Zmc.new (h:Uaa) (items:Array Vb):Zmc (h.push { cls:=.type "tuple",data:=.seq items }) h.objs.size items:=⟨_,Xf _ rfl,rfl,⟨_,rfl⟩,rfl⟩
theorem Zmc.tup {h:Uaa} {a:Ve} {items:Array Vb} (x:Zmc h a items):Uee h a items:=let ⟨o,e,c,d,_⟩:=x; ⟨o,e,c,d⟩
section
variable (P:Vi) (w:Vu)
nonrec def Zde (H:Hp) (h:Uaa) (a:Ve):HO->Prop
 | .lst xs=>xs.length<=sizeLine/\∃ (its:List Vb) (n:Nat),Zb7 xs its/\h.get? a=some { cls:=.type "list",data:=.seq its.toArray n }
 | .tup xs=>xs.length<=sizeLine/\∃ its:List Vb,Zb7 xs its/\Zmc h a its.toArray
 | .dK kvs=>kvs.length<=sizeLine/\(a==Uaf)=false/\∃ vs,KV kvs vs/\h.DictOf (Zph P w) a vs
 | .dT kvs=>kvs.length<=sizeLine/\(a==Uaf)=false/\∃ xs:List (List Key×Ve×Vb),
   Vj (fun(p:List Key×V) (q:List Key×Ve×Vb)=>p.1=q.1/\H q.2.1=some (.tup (p.1.map kV))/\Zcg p.2 q.2.2) kvs xs /\
   ∃ o es ep,h.get? a=some o/\o.ExactDict/\o.data=.dict es ep/\es.toList=xs.map (entryOfKey (Ubf (Zph P w)))/\(xs.map (·.1)).Nodup
 | .set S n=>h.SetOf (intKind P w) a S n
 | .ins C dx fs=>H dx=some (.own a)/\fs.length<=1000/\dx≠a/\h.get? a=some (PySem.W.instObj C dx) /\
   ∃ mA,h.Ns1 dx mA/\(∀ f,RelO (fs.lookup f) (mA f))/\PySem.Within mA (fs.map (·.1))
 | .own _=>∃ o,h.get? a=some o
 | .xd fs=>∃ mA,h.Ns1 a mA/\∀ f,RelO (fs.lookup f) (mA f)
 | .rng lo hi=>∃ t u v,h.get? a=some { cls:=.type "range",data:=.fields #[.int lo t,.int hi u,.int 1 v] }
 | .frz o u=>h.get? a=some o/\Zde H h a u
 | .tbl ps=>h.get? a=some { cls:=.none,data:=.fields ps }
 | .met f x=>h.get? a=some (Wdz (.ref f) (.ref x))
 | .ext φ=>φ h/\(∃ o,h.get? a=some o)/\∀ h1 h2:Uaa,φ h1->(∀ o,h1.get? a=some o->h2.get? a=some o)->φ h2
def HOk (H:Hp) (h:Uaa):Prop:=∀ a o,H a=some o->Zde P w H h a o
end
section
variable {P:Vi} {w:Vu} {H H':Hp} {h h':Uaa} {a:Ve} {o:HO}
theorem Zde.lt (x:Zde P w H h a o):a<h.objs.size:=by
 cases o with
 | lst xs=>obtain⟨_,_,_,_,e⟩:=x; exact Xe e
 | tup xs=>obtain⟨_,_,_,p⟩:=x; exact p.tup.lt
 | dK kvs=>obtain⟨_,_,_,_,o,_,_,e,_⟩:=x; exact Xe e
 | dT kvs=>obtain⟨_,_,_,_,o,_,_,e,_⟩:=x; exact Xe e
 | set S n=>obtain⟨o,_,_,_,e,_⟩:=x; exact Xe e
 | ins C dx fs=>obtain⟨_,_,_,e,_⟩:=x; exact Xe e
 | own y=>obtain⟨_,e⟩:=x; exact Xe e
 | xd fs=>obtain⟨_,⟨_,_,_,e,_⟩,_⟩:=x; exact Xe e
 | rng lo hi=>obtain⟨_,_,_,e⟩:=x; exact Xe e
 | frz ob u=>obtain⟨e,_⟩:=x; exact Xe e
 | tbl ps=>exact Xe (show h.get? a=some _ from x)
 | met f y=>exact Xe (show h.get? a=some _ from x)
 | ext φ=>obtain⟨_,⟨_,e⟩,_⟩:=x; exact Xe e
theorem Paired.mapP {α β:Type} {F G:α->β->Prop}:∀ {l₁:List α} {l₂:List β},Vj F l₁ l₂->(∀ a b,F a b->G a b)->Vj G l₁ l₂
 | _,_,.nil,_=>.nil
 | _,_,.cons r t,f=>.cons (f _ _ r) (Paired.mapP t f)
theorem Zde.stay (x:Zde P w H h a o) (k:∀ b u,(b=a\/H b=some (.own a))->h.get? b=some u->h'.get? b=some u)
  (ho:∀ b,H b=some (.own a)->H' b=some (.own a)) (ht:∀ b xs,H b=some (.tup xs)->H' b=some (.tup xs)):Zde P w H' h' a o:=by
 induction o with
 | lst xs=>obtain⟨z,its,n,r,e⟩:=x; exact⟨z,its,n,r,k _ _ (.inl rfl) e⟩
 | tup xs=>obtain⟨z,its,r,ob,e,c⟩:=x; exact⟨z,its,r,ob,k _ _ (.inl rfl) e,c⟩
 | dK kvs=>obtain⟨z,y,vs,r,ob,es,ep,e,c⟩:=x; exact⟨z,y,vs,r,ob,es,ep,k _ _ (.inl rfl) e,c⟩
 | dT kvs =>
  obtain⟨z,y,xs,r,ob,es,ep,e,c⟩:=x
  exact⟨z,y,xs,Paired.mapP r fun p q z=>⟨z.1,ht _ _ z.2.1,z.2.2⟩,ob,es,ep,k _ _ (.inl rfl) e,c⟩
 | set S n=>obtain⟨ob,es,ep,t,e,c⟩:=x; exact⟨ob,es,ep,t,k _ _ (.inl rfl) e,c⟩
 | ins C dx fs =>
  obtain⟨d,z,ne,e,mA,⟨od,es,ep,e2,c⟩,r⟩:=x
  exact⟨ho _ d,z,ne,k _ _ (.inl rfl) e,mA,⟨od,es,ep,k _ _ (.inr d) e2,c⟩,r⟩
 | own y=>obtain⟨ob,e⟩:=x; exact⟨ob,k _ _ (.inl rfl) e⟩
 | xd fs=>obtain⟨mA,⟨od,es,ep,e,c⟩,r⟩:=x; exact⟨mA,⟨od,es,ep,k _ _ (.inl rfl) e,c⟩,r⟩
 | rng lo hi=>obtain⟨t,u,v,e⟩:=x; exact⟨t,u,v,k _ _ (.inl rfl) e⟩
 | frz ob u ih=>obtain⟨e,q⟩:=x; exact⟨k _ _ (.inl rfl) e,ih q⟩
 | tbl ps =>
  have e:h.get? a=some { cls:=.none,data:=.fields ps }:=x
  show h'.get? a=some { cls:=.none,data:=.fields ps }
  exact k a _ (.inl rfl) e
 | met f y =>
  have e:h.get? a=some (Wdz (.ref f) (.ref y)):=x
  show h'.get? a=some (Wdz (.ref f) (.ref y))
  exact k a _ (.inl rfl) e
 | ext φ=>obtain⟨p,⟨o,e⟩,st⟩:=x; exact⟨st _ _ p fun o q=>k _ _ (.inl rfl) q,⟨o,k _ _ (.inl rfl) e⟩,st⟩
theorem HOk.lt (x:HOk P w H h) (e:H a=some o):a<h.objs.size:=(x a o e).lt
theorem HOk.fresh (x:HOk P w H h) (e:h.objs.size<=a):H a=none:=by
 cases q:H a with
 | none=>rfl
 | some u=>exact absurd (Xk (x.lt q) e) (Waz _)
theorem HOk.kept (x:HOk P w H h) (k:∀ b u,h.get? b=some u->h'.get? b=some u):HOk P w H h':=fun a o e =>
 (x a o e).stay (fun b u _ q=>k b u q) (fun _ q=>q) fun _ _ q=>q
theorem HOk.laid (x:HOk P w H h) (k:∀ b u,h.get? b=some u->h'.get? b=some u) (hp:h.objs.size<=a) (new:Zde P w (upd H a o) h' a o):HOk P w (upd H a o) h':=fun b u e=>by
 have hn:=x.fresh hp
 by_cases hb:b=a
 ·subst hb; rw[Zas] at e; cases e; exact new
 ·rw[Zah hb] at e
  exact(x b u e).stay (fun c v _ q=>k c v q) (fun c q=>by rw[Zah (Zai q hn)]; exact q) fun c xs q=>by rw[Zah (Zai q hn)]; exact q
end
def Rd (H:Hp) (a:Ve) (u:HO):Prop:=H a=some u\/∃ o,H a=some (.frz o u)
theorem Rd.ok {P:Vi} {w:Vu} {H:Hp} {h:Uaa} {a:Ve} {u:HO} (r:Rd H a u) (x:HOk P w H h):Zde P w H h a u:=by
 rcases r with r | ⟨o,r⟩
 ·exact x a u r
 ·obtain⟨_,q⟩:=x a _ r
  exact q
nonrec def Mut:Option HO->Prop
 | some (.lst _)=>True
 | some (.dK _)=>True
 | some (.dT _)=>True
 | some (.set _ _)=>True
 | some (.ins _ _ _)=>True
 | some (.ext _)=>True
 | _=>False
section
variable {P:Vi} {w:Vu} {H:Hp} {h h':Uaa} {x e:Ve} {o':HO}
theorem HOk.write (ok:HOk P w H h) (mu:Mut (H x)) (he:e=x\/H e=some (.own x)) (k:∀ b u,b≠e->h.get? b=some u->h'.get? b=some u) (heo:∃ u,h'.get? e=some u)
  (new:Zde P w (upd H x o') h' x o'):HOk P w (upd H x o') h':=fun b u q=>by
 have nown:∀ c y,H c=some (.own y)->c≠x:=fun c y r z=>by subst z; rw[r] at mu; exact mu
 have ntup:∀ c xs,H c=some (.tup xs)->c≠x:=fun c xs r z=>by subst z; rw[r] at mu; exact mu
 by_cases hb:b=x
 ·subst hb; rw[Zas] at q; cases q; exact new
 ·rw[Zah hb] at q
  by_cases hbe:b=e
  ·have q':H b=some (.own x):=by
    rcases he with z | z
    ·exact absurd (hbe.trans z) hb
    ·rw[hbe]; exact z
   rw[q] at q'; cases q'
   obtain⟨v,hv⟩:=heo
   exact⟨v,by rw[hbe]; exact hv⟩
  ·refine(ok b u q).stay (fun c v hc r=>k c v ?_ r) (fun c r=>by rw[Zah (nown c b r)]; exact r) fun c xs r=>by rw[Zah (ntup c xs r)]; exact r
   rcases hc with rfl | hc
   ·exact hbe
   ·rintro rfl
    rcases he with z | z
    ·exact nown c b hc z
    ·rw[hc] at z; cases z; exact hb rfl
end
structure Un (fs ex:List Ve) (H H':Hp) (h h':Uaa):Prop where
 keep:∀ b o,h.get? b=some o->H b=none->b∉fs->b∉ex->h'.get? b=some o
 slot:∀ b o,h.get? b=some o->H b=none->b∈fs->b∉ex->∃ sl,h'.get? b=some { o with slots:=sl }
 free:∀ b o,h.get? b=some o->H b=none->b∉ex->H' b=none
 there:∀ b o,h.get? b=some o->b∉ex->∃ o',h'.get? b=some o'
 tups:∀ b xs,H b=some (.tup xs)->H' b=some (.tup xs)
 frzs:∀ b o u,H b=some (.frz o u)->H' b=some (.frz o u)
 tbls:∀ b ps,H b=some (.tbl ps)->∃ more,H' b=some (.tbl (ps++more))
section
variable {fs fs' ex ex':List Ve} {H H1 H2:Hp} {h h1 h2 h':Uaa} {a x e:Ve} {o:HO}
theorem Un.any (u:Un fs ex H H1 h h1) {b:Ve} {ob:Obj} (q:h.get? b=some ob) (n:H b=none) (hx:b∉ex):∃ sl,h1.get? b=some { ob with slots:=sl }:=by
 by_cases hb:b∈fs
 ·exact u.slot b ob q n hb hx
 ·exact⟨ob.slots,u.keep b ob q n hb hx⟩
theorem Un.kept (k:∀ b u,h.get? b=some u->h'.get? b=some u):Un fs ex H H h h' :=
 ⟨fun b ob q _ _ _=>k b ob q,fun b ob q _ _ _=>⟨ob.slots,k b ob q⟩,fun _ _ _ n _=>n,fun b ob q _=>⟨ob,k b ob q⟩,fun _ _ q=>q,fun _ _ _ q=>q,fun _ ps q=>⟨#[],by rw[q]; simp⟩⟩
theorem Un.refl:Un fs ex H H h h:=Un.kept fun _ _ q=>q
theorem Un.laid (k:∀ b u,h.get? b=some u->h'.get? b=some u) (hp:h.objs.size<=a) (hn:H a=none):Un fs ex H (upd H a o) h h' where
 keep:=fun b u q _ _ _=>k b u q
 slot:=fun b u q _ _ _=>⟨u.slots,k b u q⟩
 free:=fun b u q n _=>by rw[Zah (Xi (Xk (Xe q) hp))]; exact n
 there:=fun b u q _=>⟨u,k b u q⟩
 tups:=fun b xs q=>by rw[Zah (Zai q hn)]; exact q
 frzs:=fun b u xs q=>by rw[Zah (Zai q hn)]; exact q
 tbls:=fun b ps q=>⟨#[],by rw[Zah (Zai q hn),q]; simp⟩
theorem Un.write (mu:Mut (H x)) (he:e=x\/H e=some (.own x)) (k:∀ b u,b≠e->h.get? b=some u->h'.get? b=some u) (heo:∃ u,h'.get? e=some u):Un fs ex H (upd H x o) h h':=by
 have hx:∀ b,H b=none->b≠x:=fun b n z=>by subst z; rw[n] at mu; exact mu
 have hb:∀ b,H b=none->b≠e:=fun b n z=>by
  subst z
  rcases he with r | r
  ·exact hx b n r
  ·rw[n] at r; cases r
 have hm:∀ b u,H b=some u->¬ Mut (some u)->b≠x:=fun b u q nm z=>by subst z; rw[q] at mu; exact nm mu
 refine⟨fun b u q n _ _=>k b u (hb b n) q,fun b u q n _ _=>⟨u.slots,k b u (hb b n) q⟩,fun b u q n _=>by rw[Zah (hx b n)]; exact n,fun b u q _=>?_,
  fun b xs q=>by rw[Zah (hm b _ q fun z=>z)]; exact q,fun b u xs q=>by rw[Zah (hm b _ q fun z=>z)]; exact q,fun b ps q=>⟨#[],by rw[Zah (hm b _ q fun z=>z),q]; simp⟩⟩
 by_cases hbe:b=e
 ·subst hbe; exact heo
 ·exact⟨u,k b u hbe q⟩
end
nonrec def trk (h:Uaa) (H:Hp):List Ve:=(Wcv h.objs.size).filter fun a=>(H a).isSome
nonrec def Zu0 (h:Uaa) (H:Hp):Uaa:=PySem.W.hideAll h (trk h H)
theorem Zso (h:Uaa) (H:Hp):(Zu0 h H).objs.size=h.objs.size:=PySem.W.hideAll_size _ _
theorem Zxy {h:Uaa} {H:Hp} {b:Ve} {o:Obj} (e:h.get? b=some o) (n:H b=none):(Zu0 h H).get? b=some o :=
 PySem.W.hideAll_get _ e fun hm=>by
  have q:(H b).isSome=true:=(Waa.mp hm).2
  rw[n] at q; simp at q
theorem Yax {h:Uaa} {H:Hp} {b:Ve} {o:Obj} (e:(Zu0 h H).get? b=some o):h.get? b=some o/\H b=none:=by
 have e':h.get? b=some o:=PySem.W.of_hideAll (trk h H) e
 refine⟨e',?_⟩
 cases q:H b with
 | none=>rfl
 | some x =>
  have hm:b∈trk h H:=Waa.mpr ⟨Wbk.mpr (Xe e'),by simp[q]⟩
  have z:(Zu0 h H).get? b=none:=PySem.W.hideAll_none (trk h H) hm
  rw[z] at e; cases e
structure Mod (K:Xb) (mg:Str->Option Vb) (base:Uaa):Prop where
 kin:K.In base
 glob:base.Ns Vl mg
 blt:∃ mb,base.Ns builtinsNs mb/\∀ x:Str,x ≠ "__name__" -> mb x=Vp x
 nolimit:base.NoLimit
structure Cx where
 prog:Vi
 w:Vu
 K:Xb
 mg:Str->Option Vb
 base:Uaa
 A:Vt
 N:List Str
 s₀:Vd
 H₀:Hp
 env:Env
 outer:List Env
 stack:List Env
 ex:List Ve
 fn:Str->Bool
 calm:Bool
 pn:List (Ve×Obj)
 xe:Vb->Vd->Prop
nonrec def frs (l:List Env):List Ve:=l.filterMap (·.frame)
nonrec abbrev Cx.fs (X:Cx):List Ve:=frs X.outer
def Vis (sc:Ubj) (x:Str):Prop:=sc.names.lookup x=some .local\/sc.names.lookup x=some .cell\/sc.names.lookup x=some .free
def Loc (sc:Ubj) (x:Str):Prop:=sc.names.lookup x=some .local\/sc.names.lookup x=some .cell
def Look (env:Env) (h:Uaa) (m:Str->Option Vb) (x:Str) (u:Vb):Prop :=
 (env.kindOf x=some .local/\m x=some u)\/((env.kindOf x=some .cell\/env.kindOf x=some .free)/\∃ c,env.cells.lookup x=some c/\h.IsCell c (some u))
structure Cx.Ok (X:Cx):Prop where
 mod:Mod X.K X.mg X.base
 kind:X.env.scope.kind=.function
 glob:X.env.globals=Vl
 blt:X.env.builtins=builtinsNs
 above:X.s₀.heap.objs.size<=X.env.locals
 inj:∀ x y c,X.env.cells.lookup x=some c->X.env.cells.lookup y=some c->x=y
 has:∀ x,(X.env.kindOf x=some .cell\/X.env.kindOf x=some .free)->∃ c,X.env.cells.lookup x=some c
 cab:∀ x c,X.fn x=true->X.env.cells.lookup x=some c->X.s₀.heap.objs.size<=c
 hd:X.calm=true->X.A.handled=none
 frames:X.A.frames=some X.stack
 stk:X.stack=X.outer\/(X.stack=X.env::X.outer/\X.env.frame=some X.env.locals)
 exf:∀ b∈X.ex,b≠X.env.locals/\∀ x c,X.env.cells.lookup x=some c->c≠b
 bs:∀ b o,X.base.get? b=some o->X.s₀.heap.get? b=some o/\X.H₀ b=none
 bsz:X.base.objs.size<=X.s₀.heap.objs.size
 noex:∀ b o,X.base.get? b=some o->b∉X.ex
 exfs:∀ b∈X.ex,b∉X.fs
 funs:X.s₀.heap.FunFrames X.base X.outer
 frf:∀ b∈X.fs,X.H₀ b=none
structure Inv (X:Cx) (pins:List (Ve×Obj)) (σ:List (Option V)) (H:Hp) (s:Vd):Prop where
 ok:X.Ok
 os:s.os=X.s₀.os
 bare:Uch s.gens
 base:Un X.fs X.ex X.H₀ H X.s₀.heap s.heap
 loc:∃ m,s.heap.Ns X.env.locals m/\∀ (i:Nat) (x:Str) (v:V),X.N[i]? = some x->σ[i]? = some (some v)->Vis X.env.scope x->∃ u,Zcg v u/\Look X.env s.heap m x u
 cell:∀ x c,X.env.cells.lookup x=some c->∃ v,s.heap.IsCell c v
 free:H X.env.locals=none
 freeC:∀ x c,X.env.cells.lookup x=some c->H c=none\/(X.fn x=false/\∃ o u,H c=some (.frz o u))
 pin:∀ p∈X.pn++pins,s.heap.get? p.1=some p.2/\H p.1=none/\p.1≠X.env.locals/\p.1∉X.fs/\∀ v,p.2.data≠.cell v
 hok:HOk X.prog X.w H s.heap
 len:σ.length=X.N.length
section
variable {X:Cx} {pins:List (Ve×Obj)} {σ:List (Option V)} {H H':Hp} {s:Vd} {h':Uaa}
theorem Cx.Ok.nofr (ok:X.Ok) {b:Ve} {o:Obj} (e:X.base.get? b=some o):b∉X.fs:=fun hb=>by
 have:=(ok.funs.mem hb).1
 rw[e] at this; cases this
theorem Inv.bs (I:Inv X pins σ H s):∀ b o,X.base.get? b=some o->s.heap.get? b=some o/\H b=none:=fun b o e =>
 ⟨I.base.keep b o (I.ok.bs b o e).1 (I.ok.bs b o e).2 (I.ok.nofr e) (I.ok.noex b o e),I.base.free b o (I.ok.bs b o e).1 (I.ok.bs b o e).2 (I.ok.noex b o e)⟩
theorem Inv.bk (I:Inv X pins σ H s):∀ b o,X.base.get? b=some o->s.heap.get? b=some o:=fun b o e=>(I.bs b o e).1
theorem Inv.mod (I:Inv X pins σ H s):Mod X.K X.mg X.base:=I.ok.mod
theorem Inv.kIn (I:Inv X pins σ H s):X.K.In s.heap:=I.ok.mod.kin.keeps I.bk
theorem Inv.lt (I:Inv X pins σ H s):X.env.locals<s.heap.objs.size:=let ⟨_,hn,_⟩:=I.loc; hn.lt
theorem Inv.sz (I:Inv X pins σ H s):X.s₀.heap.objs.size<=s.heap.objs.size:=Wag I.ok.above (Wds I.lt)
theorem Inv.nofs (I:Inv X pins σ H s) {a:Ve} (h:s.heap.objs.size<=a):a∉X.fs:=fun hb=>by
 obtain⟨_,o,ho,_⟩:=I.ok.funs.mem hb
 exact absurd (Xk (Xe ho) (Wag I.sz h)) (Waz _)
theorem Inv.cne (I:Inv X pins σ H s):∀ x c,X.env.cells.lookup x=some c->c≠X.env.locals:=fun x c e z=>by
 obtain⟨v,o,ho,hd⟩:=I.cell x c e
 obtain⟨m,⟨o',es,ep,ho',hd',_⟩,_⟩:=I.loc
 rw[z,ho'] at ho; cases ho; rw[hd'] at hd; cases hd
theorem Inv.funs (I:Inv X pins σ H s):s.heap.FunFrames X.base X.outer:=by
 have all:∀ (l:List Env),(∀ b∈frs l,b∈X.fs)->X.s₀.heap.FunFrames X.base l->s.heap.FunFrames X.base l:=by
  intro l
  induction l with
  | nil=>intro _ _; trivial
  | cons env r ih =>
   intro hs hl
   obtain⟨hk,⟨L,o,hf,hn,ho,hd⟩,hr⟩:=hl
   have hL:L∈X.fs:=hs L (by unfold frs; rw[Wdn,hf]; exact Wcj)
   obtain⟨sl,e⟩:=I.base.slot L o ho (I.ok.frf L hL) hL fun z=>I.ok.exfs L z hL
   exact⟨hk,⟨L,_,hf,hn,e,hd⟩,ih (fun b hb=>hs b (by unfold frs; rw[Wdn,hf]; exact Wao _ hb)) hr⟩
 exact all X.outer (fun _ hb=>hb) I.ok.funs
theorem Inv.stack (I:Inv X pins σ H s):s.heap.FunFrames X.base X.stack:=by
 rcases I.ok.stk with e | ⟨e,hf⟩
 ·rw[e]; exact I.funs
 ·rw[e]
  obtain⟨m,hn,_⟩:=I.loc
  refine .cons (by rw[I.ok.kind]; decide) hf hn ?_ I.funs
  exact Heap.get?_none_of_le (Wag I.ok.bsz I.ok.above)
theorem Inv.stkSub (I:Inv X pins σ H s):∀ b∈frs X.stack,b∈X.env.locals::X.fs:=fun b hb=>by
 rcases I.ok.stk with e | ⟨e,hf⟩
 ·rw[e] at hb; exact Wao _ hb
 ·rw[e] at hb
  unfold frs at hb
  rw[Wdn,hf] at hb
  exact hb
theorem Inv.stkFree (I:Inv X pins σ H s):∀ b∈frs X.stack,H b=none:=fun b hb=>by
 rcases Xj.mp (I.stkSub b hb) with e | hb
 ·rw[e]; exact I.free
 ·obtain⟨_,o,ho,_⟩:=I.ok.funs.mem hb
  exact I.base.free b o ho (I.ok.frf b hb) fun z=>I.ok.exfs b z hb
theorem Inv.step {g':Array GenState} {t':Nat} {d':Drawn} {ch:List Ve} (I:Inv X pins σ H s)
  (hch:∀ b∈ch,(b∈X.ex\/X.s₀.heap.objs.size<=b)/\b≠X.env.locals/\(∀ x c,X.env.cells.lookup x=some c->c≠b)/\∀ p∈X.pn++pins,p.1≠b)
  (keep:∀ b o,b≠X.env.locals->b∉X.fs->b∉ch->s.heap.get? b=some o->H b=none->h'.get? b=some o)
  (slot:∀ b o,b≠X.env.locals->b∈X.fs->b∉ch->s.heap.get? b=some o->H b=none->∃ sl,h'.get? b=some { o with slots:=sl }) (free:∀ b o,b∉ch->s.heap.get? b=some o->H b=none->H' b=none)
  (there:∀ b o,b∉ch->s.heap.get? b=some o->∃ o',h'.get? b=some o')
  (tups:∀ b xs,H b=some (.tup xs)->H' b=some (.tup xs)) (frzs:∀ b o u,H b=some (.frz o u)->H' b=some (.frz o u)) (tbls:∀ b ps,H b=some (.tbl ps)->∃ more,H' b=some (.tbl (ps++more)))
  (ns:∀ m,s.heap.Ns X.env.locals m->h'.Ns X.env.locals m) (hok:HOk X.prog X.w H' h') (hg:Uch g') :
  Inv X pins σ H' { s with heap:=h',gens:=g',drawn:=d',toks:=t' }:=by
 have neL:∀ b o,X.s₀.heap.get? b=some o->b≠X.env.locals:=fun b o e=>Xi (Xk (Xe e) I.ok.above)
 have neC:∀ b o,X.s₀.heap.get? b=some o->b∉X.ex->b∉ch:=fun b o e hx hb=>by
  rcases(hch b hb).1 with z | z
  ·exact hx z
  ·exact absurd (Xk (Xe e) z) (Waz _)
 have cellK:∀ x c,X.env.cells.lookup x=some c->∀ v,s.heap.IsCell c v->h'.IsCell c v:=fun x c e v ⟨o,ho,hd⟩=>by
  have nch:c∉ch:=fun z=>(hch c z).2.2.1 x c e rfl
  rcases I.freeC x c e with fc | ⟨_,o2,u2,fc⟩
  ·by_cases hc:c∈X.fs
   ·obtain⟨sl,q⟩:=slot c o (I.cne x c e) hc nch ho fc
    exact⟨_,q,hd⟩
   ·exact⟨o,keep c o (I.cne x c e) hc nch ho fc,hd⟩
  ·have h1:=(I.hok c _ fc).1
   have h2:=(hok c _ (frzs c o2 u2 fc)).1
   rw[ho] at h1
   cases h1
   exact⟨o,h2,hd⟩
 refine⟨I.ok,I.os,hg,⟨fun b o e n hb hx=>?_,fun b o e n hb hx=>?_,fun b o e n hx=>?_,fun b o e hx=>?_,fun b xs e=>tups b xs (I.base.tups b xs e),fun b o xs e=>frzs b o xs (I.base.frzs b o xs e),fun b ps e=>?_⟩,?_,fun x c e=>?_,?_,fun x c e=>?_,fun p hp=>?_,hok,I.len⟩
 ·exact keep b o (neL b o e) hb (neC b o e hx) (I.base.keep b o e n hb hx) (I.base.free b o e n hx)
 ·obtain⟨sl,e1⟩:=I.base.slot b o e n hb hx
  obtain⟨sl',e2⟩:=slot b _ (neL b o e) hb (neC b o e hx) e1 (I.base.free b o e n hx)
  exact⟨sl',e2⟩
 ·obtain⟨o',e1⟩:=I.base.there b o e hx
  exact free b o' (neC b o e hx) e1 (I.base.free b o e n hx)
 ·obtain⟨o',e1⟩:=I.base.there b o e hx
  exact there b o' (neC b o e hx) e1
 ·obtain⟨m1,e1⟩:=I.base.tbls b ps e
  obtain⟨m2,e2⟩:=tbls b _ e1
  exact⟨m1++m2,by rw[e2,Array.append_assoc]⟩
 ·obtain⟨m,hn,hl⟩:=I.loc
  refine⟨m,ns m hn,fun i x v e1 e2 e3=>?_⟩
  obtain⟨u,r,l⟩:=hl i x v e1 e2 e3
  refine⟨u,r,?_⟩
  rcases l with l | ⟨k,c,e,z⟩
  ·exact .inl l
  ·exact .inr ⟨k,c,e,cellK x c e _ z⟩
 ·obtain⟨v,z⟩:=I.cell x c e
  exact⟨v,cellK x c e v z⟩
 ·obtain⟨m,⟨o,_,_,ho,_⟩,_⟩:=I.loc
  exact free _ o (fun z=>(hch _ z).2.1 rfl) ho I.free
 ·obtain⟨v,o,ho,hd⟩:=I.cell x c e
  rcases I.freeC x c e with fc | ⟨fn,o2,u2,fc⟩
  ·exact .inl (free c o (fun z=>(hch c z).2.2.1 x c e rfl) ho fc)
  ·exact .inr ⟨fn,o2,u2,frzs c o2 u2 fc⟩
 ·obtain⟨e,n,ne,nf,d⟩:=I.pin p hp
  have nch:p.1∉ch:=fun z=>(hch p.1 z).2.2.2 p hp rfl
  exact⟨keep p.1 p.2 ne nf nch e n,free p.1 p.2 nch e n,ne,nf,d⟩
theorem Inv.un {t':Nat} (I:Inv X pins σ H s) (u:Un X.fs [] H H' s.heap h') (hok:HOk X.prog X.w H' h'):Inv X pins σ H' { s with heap:=h',toks:=t' }:=by
 obtain⟨m,⟨o,es,ep,ho,r⟩,_⟩:=id I.loc
 obtain⟨sl,hL⟩:=u.any ho I.free (by simp)
 exact I.step (g':=s.gens) (d':=s.drawn) (ch:=[]) (fun _ z=>nomatch z) (fun b o _ hb _ e n=>u.keep b o e n hb (by simp)) (fun b o _ hb _ e n=>u.slot b o e n hb (by simp)) (fun b o _ e n=>u.free b o e n (by simp)) (fun b o _ e=>u.there b o e (by simp)) u.tups u.frzs u.tbls (fun m' hm=>by
  obtain⟨o',es',ep',ho',r'⟩:=hm
  rw[ho] at ho'; cases ho'
  exact⟨_,es',ep',hL,r'⟩) hok I.bare
theorem Inv.call {g':Array GenState} {t':Nat} {d':Drawn} {ch:List Ve} (I:Inv X pins σ H s) (u:Un (frs X.stack) ch H H' s.heap h') (hok:HOk X.prog X.w H' h') (hg:Uch g')
  (hch:∀ b∈ch,(b∈X.ex\/X.s₀.heap.objs.size<=b)/\b≠X.env.locals/\(∀ x c,X.env.cells.lookup x=some c->c≠b)/\∀ p∈X.pn++pins,p.1≠b) :
  Inv X pins σ H' { s with heap:=h',gens:=g',drawn:=d',toks:=t' }:=by
 obtain⟨m,⟨o,es,ep,ho,r⟩,_⟩:=id I.loc
 obtain⟨sl,hL⟩:=u.any ho I.free fun z=>(hch _ z).2.1 rfl
 exact I.step (ch:=ch) hch (fun b o hL hb hc e n=>u.keep b o e n (fun z=>(Xj.mp (I.stkSub b z)).elim hL hb) hc) (fun b o _ _ hc e n=>u.any e n hc) (fun b o hc e n=>u.free b o e n hc) (fun b o hc e=>u.there b o e hc) u.tups u.frzs u.tbls (fun m' hm=>by
  obtain⟨o',es',ep',ho',r'⟩:=hm
  rw[ho] at ho'; cases ho'
  exact⟨_,es',ep',hL,r'⟩) hok hg
theorem Inv.turned {t':Nat} {it:Ve} (I:Inv X pins σ H s) (k:∀ b o,b≠it->s.heap.get? b=some o->h'.get? b=some o) (hn:H it=none) (hL:it≠X.env.locals)
  (h1:it∈X.ex\/X.s₀.heap.objs.size<=it) (h2:∀ x c,X.env.cells.lookup x=some c->c≠it) (h3:∀ p∈X.pn++pins,p.1≠it):Inv X pins σ H { s with heap:=h',toks:=t' }:=by
 have nit:∀ b u,H b=some u->b≠it:=fun b u e z=>by rw[z,hn] at e; cases e
 refine I.step (g':=s.gens) (d':=s.drawn) (ch:=[it]) (fun b hb=>?_) (fun b o _ _ hc e _=>k b o (fun z=>hc (by simp[z])) e) (fun b o _ _ hc e _=>⟨o.slots,k b o (fun z=>hc (by simp[z])) e⟩) (fun _ _ _ _ n=>n)
  (fun b o hc e=>⟨o,k b o (fun z=>hc (by simp[z])) e⟩) (fun _ _ e=>e) (fun _ _ _ e=>e) (fun b ps e=>⟨#[],by rw[e]; simp⟩) (fun m hm=>?_) (fun b u e=>?_) I.bare
 ·have e:b=it:=by simpa using hb
  subst e
  exact⟨h1,hL,h2,h3⟩
 ·obtain⟨o,es,ep,ho,r⟩:=hm
  exact⟨o,es,ep,k _ o (Uo hL) ho,r⟩
 ·refine(I.hok b u e).stay (fun c v hc q=>k c v ?_ q) (fun _ q=>q) fun _ _ q=>q
  rcases hc with z | z
  ·rw[z]; exact nit b u e
  ·exact nit c _ z
theorem Inv.tok (I:Inv X pins σ H s) (t:Nat):Inv X pins σ H { s with toks:=t }:=I.un (h':=s.heap) (t':=t) Un.refl I.hok
theorem Inv.kept {t':Nat} (I:Inv X pins σ H s) (k:∀ b u,s.heap.get? b=some u->h'.get? b=some u):Inv X pins σ H { s with heap:=h',toks:=t' }:=I.un (Un.kept k) (I.hok.kept k)
theorem Inv.laid {a:Ve} {o:HO} {t':Nat} (I:Inv X pins σ H s) (k:∀ b u,s.heap.get? b=some u->h'.get? b=some u) (hp:s.heap.objs.size<=a) (new:Zde X.prog X.w (upd H a o) h' a o) :
  Inv X pins σ (upd H a o) { s with heap:=h',toks:=t' }:=I.un (Un.laid k hp (I.hok.fresh hp)) (I.hok.laid k hp new)
theorem Inv.write {x e:Ve} {o:HO} {t':Nat} (I:Inv X pins σ H s) (mu:Mut (H x)) (he:e=x\/H e=some (.own x)) (k:∀ b u,b≠e->s.heap.get? b=some u->h'.get? b=some u) (heo:∃ u,h'.get? e=some u)
  (new:Zde X.prog X.w (upd H x o) h' x o):Inv X pins σ (upd H x o) { s with heap:=h',toks:=t' }:=I.un (Un.write mu he k heo) (I.hok.write mu he k heo new)
theorem Inv.pins_of {pins':List (Ve×Obj)} (I:Inv X pins σ H s) (h:∀ p∈pins',s.heap.get? p.1=some p.2/\H p.1=none/\p.1≠X.env.locals/\p.1∉X.fs/\∀ v,p.2.data≠.cell v):Inv X pins' σ H s :=
 ⟨I.ok,I.os,I.bare,I.base,I.loc,I.cell,I.free,I.freeC,fun p hp=>(Xm.mp hp).elim (fun z=>I.pin p (Wak _ z)) (h p),I.hok,I.len⟩
theorem Zq3 {N:List Str} (hN:N.Nodup) {i j:Nat} {x:Str} (a:N[i]? = some x) (b:N[j]? = some x):i=j:=by
 obtain⟨h1,e1⟩:=Xc.mp a
 obtain⟨h2,e2⟩:=Xc.mp b
 exact(Wfq hN).mp (e1.trans e2.symm)
theorem Zi4 {M:Model} {A:Vt} {E:Vb->Vd->Prop} {i:Nat} {x:Str} {v:V} {u:Vb} {Q:Unit->Vd->Prop} (I:Inv X pins σ H s) (hN:X.N.Nodup) (hi:X.N[i]? = some x) (hx:Loc X.env.scope x) (r:Zcg v u)
  (h:∀ s',Inv X pins (σ.set i (some v)) H s'->(∃ a,Wad a s.heap s'.heap/\(a=X.env.locals\/X.env.cells.lookup x=some a))->Q () s') (hf:X.fn x=true\/X.env.scope.names.lookup x=some .local:=by first | exact .inl rfl | exact .inr rfl | assumption):Vf M A (Udv X.env x u) Q E s:=by
 obtain⟨m,hn,hl⟩:=id I.loc
 have hcls:(X.env.scope.kind==.class||(X.env.scope.kind==.module&&X.env.locals != X.env.globals))=false:=by rw[I.ok.kind]; rfl
 have hiσ:i<σ.length:=by rw[I.len]; exact(Xc.mp hi).1
 have cne:=I.cne
 have tracked:∀ {a:Ve} {h':Uaa},(∃ o,s.heap.get? a=some o/\H a=none)->Wad a s.heap h'->HOk X.prog X.w H h':=fun {a h'} ha hs b ob e=>by
  obtain⟨_,_,hfree⟩:=ha
  refine(I.hok b ob e).stay (fun c w' hc q=>(hs.2 c ?_).trans q) (fun _ q=>q) fun _ _ q=>q
  rintro rfl
  rcases hc with rfl | hc
  ·rw[hfree] at e; cases e
  ·rw[hfree] at hc; cases hc
 rcases hx with hk | hk
 ·refine wpAny_storeName_local hk hn (fun h' hn' hs=>?_) hcls
  obtain⟨oL,_,_,hoL,_⟩:=id hn
  refine h _ ⟨I.ok,I.os,I.bare,⟨fun b o e n hb hx=>?_,fun b o e n hb hx=>?_,I.base.free,fun b o e hx=>?_,I.base.tups,I.base.frzs,I.base.tbls⟩,⟨_,hn',fun j y v' e1 e2 e3=>?_⟩,fun y c e=>?_,I.free,I.freeC,fun p hp=>?_,tracked ⟨oL,hoL,I.free⟩ hs,by simpa using I.len⟩ ⟨_,hs,.inl rfl⟩
  ·exact(hs.2 b (Xi (Xk (Xe e) I.ok.above))).trans (I.base.keep b o e n hb hx)
  ·obtain⟨sl,e1⟩:=I.base.slot b o e n hb hx
   exact⟨sl,(hs.2 b (Xi (Xk (Xe e) I.ok.above))).trans e1⟩
  ·obtain⟨o',e1⟩:=I.base.there b o e hx
   exact⟨o',(hs.2 b (Xi (Xk (Xe e) I.ok.above))).trans e1⟩
  ·by_cases hj:j=i
   ·subst hj
    rw[hi] at e1; cases e1
    rw[Wbc hiσ] at e2
    cases e2
    exact⟨u,r,.inl ⟨hk,by simp⟩⟩
   ·rw[Wap (Uo hj)] at e2
    obtain⟨u',r',q⟩:=hl j y v' e1 e2 e3
    refine⟨u',r',?_⟩
    rcases q with ⟨k,e⟩ | ⟨k,c,e,z⟩
    ·refine .inl ⟨k,?_⟩
     have:y≠x:=fun e=>hj (Zq3 hN e1 (e ▸ hi))
     simp[this,e]
    ·exact .inr ⟨k,c,e,z.sameBut hs (cne y c e)⟩
  ·obtain⟨w',z⟩:=I.cell y c e
   exact⟨w',z.sameBut hs (cne y c e)⟩
  ·obtain⟨e,n,ne,nf,d⟩:=I.pin p hp
   exact⟨(hs.2 p.1 ne).trans e,n,ne,nf,d⟩
 ·have hfn:X.fn x=true:=by
   rcases hf with z | z
   ·exact z
   ·rw[z] at hk; cases hk
  obtain⟨c,hc⟩:=I.ok.has x (.inl hk)
  obtain⟨w',z⟩:=I.cell x c hc
  refine wpAny_storeName_cell I.ok.kind hk hc z (fun h' hc' hs=>?_)
  obtain⟨oc,hoc,hocd⟩:=id z
  refine h { s with heap:=h' } ⟨I.ok,I.os,I.bare,⟨fun b o e n hb hx=>?_,fun b o e n hb hx=>?_,I.base.free,fun b o e hx=>?_,I.base.tups,I.base.frzs,I.base.tbls⟩,⟨m,hn.sameBut hs (Uo (cne x c hc)),fun j y v' e1 e2 e3=>?_⟩,fun y c' e=>?_,I.free,I.freeC,fun p hp=>?_,tracked ⟨oc,hoc,(I.freeC x c hc).resolve_right (fun z=>by rw[hfn] at z; cases z.1)⟩ hs,by simpa using I.len⟩ ⟨c,hs,.inr hc⟩
  ·exact(hs.2 b (Xi (Xk (Xe e) (I.ok.cab x c hfn hc)))).trans (I.base.keep b o e n hb hx)
  ·obtain⟨sl,e1⟩:=I.base.slot b o e n hb hx
   exact⟨sl,(hs.2 b (Xi (Xk (Xe e) (I.ok.cab x c hfn hc)))).trans e1⟩
  ·obtain⟨o',e1⟩:=I.base.there b o e hx
   exact⟨o',(hs.2 b (Xi (Xk (Xe e) (I.ok.cab x c hfn hc)))).trans e1⟩
  ·by_cases hj:j=i
   ·subst hj
    rw[hi] at e1; cases e1
    rw[Wbc hiσ] at e2
    cases e2
    exact⟨u,r,.inr ⟨.inl hk,c,hc,hc'⟩⟩
   ·rw[Wap (Uo hj)] at e2
    obtain⟨u',r',q⟩:=hl j y v' e1 e2 e3
    refine⟨u',r',?_⟩
    rcases q with q | ⟨k,c',e,z'⟩
    ·exact .inl q
    ·refine .inr ⟨k,c',e,z'.sameBut hs ?_⟩
     rintro rfl
     exact hj (Zq3 hN e1 (I.ok.inj _ _ _ e hc ▸ hi))
  ·by_cases hcc:c'=c
   ·subst hcc; exact⟨_,hc'⟩
   ·obtain⟨w2,z2⟩:=I.cell y c' e
    exact⟨w2,z2.sameBut hs hcc⟩
  ·obtain⟨e,n,ne,nf,d⟩:=I.pin p hp
   refine⟨(hs.2 p.1 ?_).trans e,n,ne,nf,d⟩
   intro q
   rw[q,hoc] at e
   have q':oc=p.2:=Wac.inj e
   exact d w' (by rw[<- q']; exact hocd)
theorem Zmb {M:Model} {A:Vt} {E:Vb->Vd->Prop} {i:Nat} {x:Str} {v:V} {u:Vb} {Q:Unit->Vd->Prop} (I:Inv X pins σ H s) (hN:X.N.Nodup) (hi:X.N[i]? = some x) (hx:Loc X.env.scope x) (r:Zcg v u)
  (h:∀ s',Inv X pins (σ.set i (some v)) H s'->Q () s') (hf:X.fn x=true\/X.env.scope.names.lookup x=some .local:=by first | exact .inl rfl | exact .inr rfl | assumption):Vf M A (Udv X.env x u) Q E s :=
 Zi4 I hN hi hx r (fun s' I' _=>h s' I') hf
theorem Inv.call' {s':Vd} {ch:List Ve} (I:Inv X pins σ H s) (ho:s'.os=s.os) (u:Un (frs X.stack) ch H H' s.heap s'.heap) (hok:HOk X.prog X.w H' s'.heap) (hg:Uch s'.gens)
  (hch:∀ b∈ch,(b∈X.ex\/X.s₀.heap.objs.size<=b)/\b≠X.env.locals/\(∀ x c,X.env.cells.lookup x=some c->c≠b)/\∀ p∈X.pn++pins,p.1≠b):Inv X pins σ H' s':=by
 obtain⟨h',g',d',t',o'⟩:=s'
 have e:o'=s.os:=ho
 subst e
 exact I.call (g':=g') (t':=t') (d':=d') u hok hg hch
end
nonrec abbrev XK:=Vb->Option Ve->Hp->Prop
nonrec abbrev St:=List (Option V)
nonrec abbrev VK:=V->Hp->Prop
nonrec abbrev TE:=St->Hp->VK->Prop
nonrec abbrev TT:=St->Hp->(Bool->Hp->Prop)->Prop
nonrec abbrev TA:=St->Hp->(List V->Hp->Prop)->Prop
structure Ends where
 nx:St->Hp->Prop
 rt:VK
 bk:St->Hp->Prop:=fun _ _=>False
 ct:St->Hp->Prop:=fun _ _=>False
nonrec abbrev TS:=Ends->St->Hp->Prop
def EP (X:Cx) (pins:List (Ve×Obj)) (σ:St) (Q:VK) (u:Vb) (s':Vd):Prop:=∃ v H',Inv X pins σ H' s'/\Zcg v u/\Q v H'
def TP (X:Cx) (pins:List (Ve×Obj)) (σ:St) (Q:Bool->Hp->Prop) (b:Bool) (s':Vd):Prop:=∃ H',Inv X pins σ H' s'/\Q b H'
def AP (X:Cx) (pins:List (Ve×Obj)) (σ:St) (Q:List V->Hp->Prop) (us:List Vb) (s':Vd):Prop:=∃ vs H',Inv X pins σ H' s'/\Zb7 vs us/\Q vs H'
def SP (X:Cx) (pins:List (Ve×Obj)) (D:Ends) (f:Flow) (s':Vd):Prop :=
 match f with
 | .next=>∃ σ' H',Inv X pins σ' H' s'/\D.nx σ' H'
 | .brk=>∃ σ' H',Inv X pins σ' H' s'/\D.bk σ' H'
 | .cont=>∃ σ' H',Inv X pins σ' H' s'/\D.ct σ' H'
 | .ret u=>∃ v σ' H',Inv X pins σ' H' s'/\Zcg v u/\D.rt v H'
def PE (X:Cx) (e:Vw) (t:TE):Prop :=
 ∀ (pins:List (Ve×Obj)) (s:Vd) (σ:St) (H:Hp) (Q:VK),Inv X pins σ H s->t σ H Q->Vf (Vm X.prog X.w) X.A (eval e X.env) (EP X pins σ Q) X.xe s
def PT (X:Cx) (e:Vw) (t:TT):Prop :=
 ∀ (pins:List (Ve×Obj)) (s:Vd) (σ:St) (H:Hp) (Q:Bool->Hp->Prop),Inv X pins σ H s->t σ H Q->Vf (Vm X.prog X.w) X.A (isTrue e X.env (eval e X.env)) (TP X pins σ Q) X.xe s
def PW (X:Cx) (e:Vw) (t:TT):Prop :=
 ∀ (whole:Sem Vb) (pins:List (Ve×Obj)) (s:Vd) (σ:St) (H:Hp) (Q:Bool->Hp->Prop),Inv X pins σ H s->t σ H Q->Vf (Vm X.prog X.w) X.A (isTrue e X.env whole) (TP X pins σ Q) X.xe s
def PA (X:Cx) (es:List Vw) (t:TA):Prop :=
 ∀ (pos:Pos) (pins:List (Ve×Obj)) (s:Vd) (σ:St) (H:Hp) (Q:List V->Hp->Prop),Inv X pins σ H s->t σ H Q->Vf (Vm X.prog X.w) X.A (spliced (Uam pos (Vg es X.env))) (AP X pins σ Q) X.xe s
def PS (X:Cx) (st:Uab) (t:TS):Prop :=
 ∀ (pins:List (Ve×Obj)) (s:Vd) (σ:St) (H:Hp) (D:Ends),Inv X pins σ H s->t D σ H->Vf (Vm X.prog X.w) X.A (exec st X.env) (SP X pins D) X.xe s
def PSs (X:Cx) (st:List Uab) (t:TS):Prop :=
 ∀ (pins:List (Ve×Obj)) (s:Vd) (σ:St) (H:Hp) (D:Ends),Inv X pins σ H s->t D σ H->Vf (Vm X.prog X.w) X.A (execs st X.env) (SP X pins D) X.xe s
theorem thn {α:Type} {t:Sem α} {Q Q':α->Vd->Prop} {M:Model} {A:Vt} {E:Vb->Vd->Prop} {s:Vd} (h:Vf M A t Q E s) (hQ:∀ a s,Q a s->Q' a s):Vf M A t Q' E s:=Uan h hQ fun _ _ x=>x
section
variable {X:Cx}
nonrec def Ydh (i:Nat):TE:=fun σ H Q=>∃ v,σ[i]? = some (some v)/\Q v H
nonrec def tC (v:V):TE:=fun _ H Q=>Q v H
theorem Ydy {i:Nat} {x:Str} {pos:Pos} (hN:X.N[i]? = some x) (hv:Vis X.env.scope x) (hd:(x==("__debug__" : Str))=false:=by decide) (hcd:(x==("__classdict__" : Str))=false:=by decide):PE X (.Name x pos) (Ydh i):=by
 intro pins s σ H Q I h
 obtain⟨v,e,h⟩:=h
 obtain⟨m,hn,hl⟩:=I.loc
 obtain⟨u,r,l⟩:=hl i x v hN e hv
 have fin:EP X pins σ Q u s:=⟨v,H,I,r,h⟩
 rcases l with ⟨hk,hm⟩ | ⟨hk,c,hc,hcell⟩
 ·exact wpAny_Name (Ucu I.ok.kind hk hn hm fin) hd
 ·rcases hk with hk | hk
  ·exact wpAny_Name (Udc I.ok.kind hk hc hcell fin) hd
  ·exact wpAny_Name (wpAny_loadName_free I.ok.kind hk hc hcell fin hcd) hd
theorem Yd9 {i j pos}:PE X (.Constant (.int i) j pos) (tC (.int i)):=fun _ _ _ H _ I h=>wpAny_Constant_int ⟨.int i,H,I.tok _,⟨_,rfl⟩,h⟩
theorem pe_bl {b j pos}:PE X (.Constant (.bool b) j pos) (tC (.bl b)):=fun _ _ _ H _ I h=>Constant_bool ⟨.bl b,H,I,rfl,h⟩
theorem Yep {j pos}:PE X (.Constant .none j pos) (tC .non):=fun _ _ _ H _ I h=>Constant_none ⟨.non,H,I,rfl,h⟩
theorem Yem {x j pos}:PE X (.Constant (.str x) j pos) (tC (.str x)):=fun _ _ _ H _ I h=>Calls.Constant_str ⟨.str x,H,I.tok _,⟨_,rfl⟩,h⟩
def Gl (X:Cx) (x:Str):Prop:=X.env.kindOf x=some .globalImplicit
theorem Ztb {E:Vb->Vd->Prop} {pins:List (Ve×Obj)} {s:Vd} {σ:St} {H:Hp} {x:Str} {u:Vb} {pos:Pos} {Q:Vb->Vd->Prop} (I:Inv X pins σ H s) (hg:Gl X x) (hm:X.mg x=some u) (h:Q u s)
  (hd:(x==("__debug__" : Str))=false:=by decide):Vf (Vm X.prog X.w) X.A (eval (.Name x pos) X.env) Q E s :=
 Tbe I.ok.kind hg (Calls.loadGlobal_global (by rw[I.ok.glob]; exact I.mod.glob.keeps I.bk) hm h) hd
theorem Ze5 {E:Vb->Vd->Prop} {pins:List (Ve×Obj)} {s:Vd} {σ:St} {H:Hp} {x:Str} {u:Vb} {pos:Pos} {Q:Vb->Vd->Prop} (I:Inv X pins σ H s) (hg:Gl X x) (hm:X.mg x=none) (hv:Vp x=some u) (h:Q u s)
  (hn:x ≠ "__name__" := by decide) (hd:(x==("__debug__" : Str))=false:=by decide):Vf (Vm X.prog X.w) X.A (eval (.Name x pos) X.env) Q E s:=by
 obtain⟨mb,h1,h2⟩:=I.mod.blt
 exact Tbe I.ok.kind hg (Calls.loadGlobal_builtin (by rw[I.ok.glob]; exact I.mod.glob.keeps I.bk) hm (by rw[I.ok.blt]; exact h1.keeps I.bk) ((h2 x hn).trans hv) h) hd
theorem Zs6 {x:Str} {v:V} {u:Vb} {pos:Pos} (hg:Gl X x) (hm:X.mg x=some u) (r:Zcg v u) (hd:(x==("__debug__" : Str))=false:=by decide):PE X (.Name x pos) (tC v) :=
 fun _ _ _ H _ I h=>Ztb I hg hm ⟨v,H,I,r,h⟩ hd
theorem Ybs {x:Str} {v:V} {u:Vb} {pos:Pos} (hg:Gl X x) (hm:X.mg x=none) (hv:Vp x=some u) (r:Zcg v u) (hn:x ≠ "__name__" := by decide) (hd:(x==("__debug__" : Str))=false:=by decide):PE X (.Name x pos) (tC v) :=
 fun _ _ _ H _ I h=>Ze5 I hg hm hv ⟨v,H,I,r,h⟩ hn hd
variable {a b:Vw} {ta tb:TE} {pos:Pos}
variable {tA tB':TT} {rest:List Vw}
nonrec def tAnd (t u:TT):TT:=fun σ H Q=>t σ H fun c H1=>if c=true then u σ H1 Q else Q false H1
nonrec def tOr (t u:TT):TT:=fun σ H Q=>t σ H fun c H1=>if c=true then Q true H1 else u σ H1 Q
nonrec def tNot (t:TT):TT:=fun σ H Q=>t σ H fun c H1=>Q (!c) H1
theorem Ya8 (ha:PT X a tA):PW X (.BoolOp .And [a] pos) tA:=by
 intro wh pins s σ H Q I h
 refine isTrue_and (thn (ha pins s σ H Q I h) fun c s1 e=>?_)
 cases c with
 | true=>exact isTrue_and_nil e
 | false=>exact e
theorem Ycj (ha:PT X a tA):PW X (.BoolOp .Or [a] pos) tA:=by
 intro wh pins s σ H Q I h
 refine isTrue_or (thn (ha pins s σ H Q I h) fun c s1 e=>?_)
 cases c with
 | false=>exact isTrue_or_nil e
 | true=>exact e
theorem Ye9 (ha:PT X a tA) (hb:PW X (.BoolOp .And (b::rest) pos) tB'):PW X (.BoolOp .And (a::b::rest) pos) (tAnd tA tB'):=by
 intro wh pins s σ H Q I h
 refine isTrue_and (thn (ha pins s σ H _ I h) fun c s1 zz=>?_)
 obtain⟨H1,I1,q1⟩:=zz
 cases c with
 | true=>exact hb wh pins s1 σ H1 Q I1 q1
 | false=>exact⟨H1,I1,q1⟩
theorem pw_or (ha:PT X a tA) (hb:PW X (.BoolOp .Or (b::rest) pos) tB'):PW X (.BoolOp .Or (a::b::rest) pos) (tOr tA tB'):=by
 intro wh pins s σ H Q I h
 refine isTrue_or (thn (ha pins s σ H _ I h) fun c s1 zz=>?_)
 obtain⟨H1,I1,q1⟩:=zz
 cases c with
 | true=>exact⟨H1,I1,q1⟩
 | false=>exact hb wh pins s1 σ H1 Q I1 q1
theorem Yeo (ha:PT X a tA):PT X (.UnaryOp .Not a pos) (tNot tA):=by
 intro pins s σ H Q I h
 exact isTrue_not (ha pins s σ H (fun c H1=>Q (!c) H1) I h)
nonrec def tAndV (ta tb:TE):TE:=fun σ H Q=>ta σ H fun x H1=>∃ c,x=.bl c/\if c=true then tb σ H1 Q else Q (.bl false) H1
nonrec def tNotV (ta:TE):TE:=fun σ H Q=>ta σ H fun x H1=>∃ c,x=.bl c/\Q (.bl (!c)) H1
theorem Ydg {op} {t:TE} (h:PE X a t):PE X (.BoolOp op [a] pos) t:=fun pins s σ H Q I hw=>BoolOp_one (h pins s σ H Q I hw)
theorem Ye0 (ha:PE X a ta) (hb:PE X (.BoolOp .And (b::rest) pos) tb):PE X (.BoolOp .And (a::b::rest) pos) (tAndV ta tb):=by
 intro pins s σ H Q I h
 refine BoolOp_and (thn (ha pins s σ H _ I h) fun v s1 zz=>?_)
 obtain⟨x,H1,I1,r1,q1⟩:=zz
 obtain⟨c,rfl,q1⟩:=q1
 cases r1
 refine Vv ?_
 cases c with
 | true=>exact hb pins s1 σ H1 Q I1 q1
 | false=>exact⟨.bl false,H1,I1,rfl,q1⟩
theorem Ycv (ha:PE X a ta):PE X (.UnaryOp .Not a pos) (tNotV ta):=by
 intro pins s σ H Q I h
 refine UnaryOp_ (thn (ha pins s σ H _ I h) fun v s1 zz=>?_)
 obtain⟨x,H1,I1,r1,q1⟩:=zz
 obtain⟨c,rfl,q1⟩:=q1
 cases r1
 exact not_of (Vv ⟨.bl (!c),H1,I1,rfl,q1⟩)
nonrec def tIf (t:TT) (ta tb:TE):TE:=fun σ H Q=>t σ H fun c H1=>if c=true then ta σ H1 Q else tb σ H1 Q
theorem Zyd {c:Vw} (hc:PT X c tA) (ha:PE X a ta) (hb:PE X b tb):PE X (.IfExp c a b pos) (tIf tA ta tb):=by
 intro pins s σ H Q I h
 refine wpAny_IfExp (thn (hc pins s σ H _ I h) fun d s1 zz=>?_)
 obtain⟨H1,I1,q1⟩:=zz
 cases d with
 | true=>exact ha pins s1 σ H1 Q I1 q1
 | false=>exact hb pins s1 σ H1 Q I1 q1
end
def SqL (K:Xb) (H:Hp) (a:Ve) (xs:List V):Prop :=
 Rd H a (.lst xs) \/
  ∃ (o:Obj) (its:Array Vb) (n:Nat),K.lookup a=some o/\o.cls=.type "list" /\ o.dict=none/\o.data=.seq its n/\its.size<=sizeLine/\Zb7 xs its.toList
def SqT (K:Xb) (H:Hp) (a:Ve) (xs:List V):Prop :=
 Rd H a (.tup xs) \/
  ∃ (o:Obj) (its:Array Vb) (n:Nat),K.lookup a=some o/\o.cls=.type "tuple" /\ o.data=.seq its n/\its.size<=sizeLine/\Zb7 xs its.toList/\o.dict=none
nonrec def absV:Vb->Option V
 | .none=>some .non
 | .bool b=>some (.bl b)
 | .int i _=>some (.int i)
 | .str x _=>some (.str x)
 | .bytes b _=>some (.byt b)
 | .float b _=>some (.flt b)
 | .ref a=>some (.ref a)
 | .type n=>some (.ty n)
 | _=>none
theorem Zcg.abs {x:V} {u:Vb} (r:Zcg x u):absV u=some x:=by
 cases x with
 | non=>cases r; rfl
 | bl _=>cases r; rfl
 | int _=>obtain⟨t,rfl⟩:=r; rfl
 | str _=>obtain⟨t,rfl⟩:=r; rfl
 | byt _=>obtain⟨t,rfl⟩:=r; rfl
 | flt _=>obtain⟨t,rfl⟩:=r; rfl
 | ref _=>cases r; rfl
 | ty _=>cases r; rfl
theorem Zcg.inj {x y:V} {u:Vb} (r:Zcg x u) (q:Zcg y u):x=y:=Wac.inj (r.abs.symm.trans q.abs)
theorem Zb7.inj:∀ {xs ys:List V} {us:List Vb},Zb7 xs us->Zb7 ys us->xs=ys:=by
 intro xs ys us h
 induction h generalizing ys with
 | nil=>intro h'; cases h'; rfl
 | cons r t ih =>
  intro h'
  cases h' with
  | cons r' t'=>rw[r.inj r',ih t']
section
variable {X:Cx} {pins:List (Ve×Obj)} {σ:St} {H:Hp} {s:Vd} {a:Ve} {xs ys:List V}
theorem SqL.of {K:Xb} (h:H a=some (.lst xs)):SqL K H a xs:=.inl (.inl h)
theorem SqT.of {K:Xb} (h:H a=some (.tup xs)):SqT K H a xs:=.inl (.inl h)
theorem Inv.list (I:Inv X pins σ H s) (h:SqL X.K H a xs):∃ its:List Vb,Zb7 xs its/\PlainL s.heap a its.toArray/\xs.length<=sizeLine:=by
 rcases h with h | ⟨o,its,n,hk,hc,hd,hs,hz,r⟩
 ·obtain⟨z,its,n,r,e⟩:=h.ok I.hok
  exact⟨its,r,⟨_,n,e,rfl,rfl,rfl⟩,z⟩
 ·refine⟨its.toList,r,⟨o,n,I.kIn a o hk,hc,hd,by simpa using hs⟩,?_⟩
  have e:=r.length
  simp only[Wdo] at e
  omega
theorem Inv.tuple (I:Inv X pins σ H s) (h:SqT X.K H a xs):∃ its:List Vb,Zb7 xs its/\Uee s.heap a its.toArray/\xs.length<=sizeLine:=by
 rcases h with h | ⟨o,its,n,hk,hc,hs,hz,r,_⟩
 ·obtain⟨z,its,r,p⟩:=h.ok I.hok
  exact⟨its,r,p.tup,z⟩
 ·refine⟨its.toList,r,⟨o,I.kIn a o hk,hc,n,by simpa using hs⟩,?_⟩
  have e:=r.length
  simp only[Wdo] at e
  omega
theorem Inv.list_inj (I:Inv X pins σ H s) (h:SqL X.K H a xs) (h':SqL X.K H a ys):xs=ys:=by
 obtain⟨its,r,⟨o,n,e,_,_,d⟩,_⟩:=I.list h
 obtain⟨its',r',⟨o',n',e',_,_,d'⟩,_⟩:=I.list h'
 rw[e] at e'; cases e'
 rw[d] at d'
 injection d' with d1 _
 have:its=its':=by simpa using congrArg Array.toList d1
 subst this
 exact r.inj r'
theorem Inv.tuple_inj (I:Inv X pins σ H s) (h:SqT X.K H a xs) (h':SqT X.K H a ys):xs=ys:=by
 obtain⟨its,r,⟨o,e,_,n,d⟩,_⟩:=I.tuple h
 obtain⟨its',r',⟨o',e',_,n',d'⟩,_⟩:=I.tuple h'
 rw[e] at e'; cases e'
 rw[d] at d'
 injection d' with d1 _
 have:its=its':=by simpa using congrArg Array.toList d1
 subst this
 exact r.inj r'
end
nonrec abbrev Cx.wish (X:Cx) (E:Vb->Vd->Prop):Cx:={ X with xe:=E }
nonrec abbrev Cx.nox (X:Cx):Cx:=X.wish fun _ _=>False
theorem Cx.Ok.wish {X:Cx} (ok:X.Ok) (E:Vb->Vd->Prop):(X.wish E).Ok :=
 ⟨ok.mod,ok.kind,ok.glob,ok.blt,ok.above,ok.inj,ok.has,ok.cab,ok.hd,ok.frames,ok.stk,ok.exf,ok.bs,ok.bsz,ok.noex,ok.exfs,ok.funs,ok.frf⟩
theorem Cx.Ok.unwish {X:Cx} {E:Vb->Vd->Prop} (ok:(X.wish E).Ok):X.Ok :=
 ⟨ok.mod,ok.kind,ok.glob,ok.blt,ok.above,ok.inj,ok.has,ok.cab,ok.hd,ok.frames,ok.stk,ok.exf,ok.bs,ok.bsz,ok.noex,ok.exfs,ok.funs,ok.frf⟩
section
variable {X:Cx} {pins:List (Ve×Obj)} {σ:St} {H:Hp} {s:Vd} {E:Vb->Vd->Prop}
theorem Inv.wish (I:Inv X pins σ H s) (E:Vb->Vd->Prop):Inv (X.wish E) pins σ H s:=⟨I.ok.wish E,I.os,I.bare,I.base,I.loc,I.cell,I.free,I.freeC,I.pin,I.hok,I.len⟩
theorem Inv.unwish (I:Inv (X.wish E) pins σ H s):Inv X pins σ H s:=⟨I.ok.unwish,I.os,I.bare,I.base,I.loc,I.cell,I.free,I.freeC,I.pin,I.hok,I.len⟩
theorem SP.unwish {D:Ends} {f:Flow} {s':Vd} (h:SP (X.wish E) pins D f s'):SP X pins D f s':=by
 cases f with
 | next=>obtain⟨σ',H',I,q⟩:=h; exact⟨σ',H',I.unwish,q⟩
 | brk=>obtain⟨σ',H',I,q⟩:=h; exact⟨σ',H',I.unwish,q⟩
 | cont=>obtain⟨σ',H',I,q⟩:=h; exact⟨σ',H',I.unwish,q⟩
 | ret u=>obtain⟨v,σ',H',I,r,q⟩:=h; exact⟨v,σ',H',I.unwish,r,q⟩
theorem PSs.nox {st:List Uab} {t:TS} (h:PSs X.nox st t):PSs X st t:=fun pins s σ H D I hw =>
 Uan (h pins s σ H D (I.wish _) hw) (fun _ _ q=>q.unwish) fun _ _ z=>Uj z
end
section
variable {X:Cx} {st:Uab} {rest:List Uab} {t u:TS} {e:Vw} {te:TE} {pos:Pos}
nonrec def tNext:TS:=fun D σ H=>D.nx σ H
nonrec def tSeq (t u:TS):TS:=fun D σ H=>t { D with nx:=u D } σ H
theorem Zz3:PSs X [] tNext:=fun _ _ σ H _ I h=>Uci ⟨σ,H,I,h⟩
theorem Zwt (h1:PS X st t) (h2:PSs X rest u):PSs X (st::rest) (tSeq t u):=by
 intro pins s σ H D I h
 refine wpAny_execs_cons (thn (h1 pins s σ H { D with nx:=u D } I h) fun f s1 q=>?_)
 cases f with
 | next =>
  obtain⟨σ',H',I',q⟩:=q
  exact h2 pins s1 σ' H' D I' q
 | ret v=>exact q
 | brk=>exact q
 | cont=>exact q
theorem Inv.quiet {pins:List (Ve×Obj)} {σ:St} {H:Hp} {s:Vd} (I:Inv X pins σ H s):interactive X.env=false:=by simp[interactive,I.ok.kind]
nonrec def tDrop (te:TE):TS:=fun D σ H=>te σ H fun _ H1=>D.nx σ H1
theorem Zz6 (he:PE X e te) (hs:Ucj e none pos.line X.env=pure false:=by rfl):PS X (.Expr e pos) (tDrop te):=by
 intro pins s σ H D I h
 exact wpAny_Expr_any (thn (he pins s σ H _ I h) fun v s1 ⟨x,H1,I1,r1,q1⟩=>⟨σ,H1,I1,q1⟩) I.quiet hs
nonrec def tRet (te:TE):TS:=fun D σ H=>te σ H D.rt
theorem Ycf (he:PE X e te):PS X (.Return (some e) pos) (tRet te):=by
 intro pins s σ H D I h
 exact wpAny_Return_some (thn (he pins s σ H _ I h) fun v s1 ⟨x,H1,I1,r1,q1⟩=>⟨x,σ,H1,I1,r1,q1⟩)
nonrec def tRetN:TS:=fun D _ H=>D.rt .non H
theorem Zz0:PS X (.Return none pos) tRetN:=fun _ _ σ H _ I h=>wpAny_Return_none ⟨.non,σ,H,I,rfl,h⟩
nonrec def tIfS (c:TT) (t u:TS):TS:=fun D σ H=>c σ H fun b H1=>if b=true then t D σ H1 else u D σ H1
theorem ps_if {c:Vw} {a b:List Uab} {tc:TT} (hc:PT X c tc) (ha:PSs X a t) (hb:PSs X b u):PS X (.If c a b pos) (tIfS tc t u):=by
 intro pins s σ H D I h
 refine wpAny_If (thn (hc pins s σ H _ I h) fun d s1 zz=>?_)
 obtain⟨H1,I1,q1⟩:=zz
 cases d with
 | true=>exact ha pins s1 σ H1 D I1 q1
 | false=>exact hb pins s1 σ H1 D I1 q1
end
nonrec abbrev TG:=V->St->Hp->(St->Hp->Prop)->Prop
nonrec abbrev TGs:=List V->St->Hp->(St->Hp->Prop)->Prop
def PG (X:Cx) (target:Vw) (t:TG):Prop :=
 ∀ (pins:List (Ve×Obj)) (s:Vd) (σ:St) (H:Hp) (v:V) (u:Vb) (Q:St->Hp->Prop),Inv X pins σ H s->Zcg v u->t v σ H Q ->
  Vf (Vm X.prog X.w) X.A (Ucz target X.env u) (fun _ s'=>∃ σ' H',Inv X pins σ' H' s'/\Q σ' H') X.xe s
def PGs (X:Cx) (ts:List Vw) (t:TGs):Prop :=
 ∀ (pins:List (Ve×Obj)) (s:Vd) (σ:St) (H:Hp) (vs:List V) (us:List Vb) (Q:St->Hp->Prop),Inv X pins σ H s->Zb7 vs us->t vs σ H Q ->
  Vf (Vm X.prog X.w) X.A (assignInOrder ((Uao ts X.env).map (·.2)) us) (fun _ s'=>∃ σ' H',Inv X pins σ' H' s'/\Q σ' H') X.xe s
nonrec abbrev TSet:=V->V->V->Hp->(Hp->Prop)->Prop
def PSet (X:Cx) (t:TSet):Prop :=
 ∀ (pins:List (Ve×Obj)) (s:Vd) (σ:St) (H:Hp) (o i v:V) (ov iv u:Vb) (Q:Hp->Prop),Inv X pins σ H s->Zcg o ov->Zcg i iv->Zcg v u->t o i v H Q ->
  Vf (Vm X.prog X.w) X.A (setItem ov iv u) (fun _ s'=>∃ H',Inv X pins σ H' s'/\Q H') X.xe s
nonrec abbrev TIp:=V->V->Hp->VK->Prop
def PIp (X:Cx) (op:Udt) (t:TIp):Prop :=
 ∀ (pins:List (Ve×Obj)) (s:Vd) (σ:St) (H:Hp) (x y:V) (v u:Vb) (Q:VK),Inv X pins σ H s->Zcg x v->Zcg y u->t x y H Q ->
  Vf (Vm X.prog X.w) X.A (inplaceOp op v u) (EP X pins σ Q) X.xe s
section
variable {X:Cx} {pos:Pos}
nonrec def Zlb (i:Nat):TG:=fun v σ H Q=>Q (σ.set i (some v)) H
theorem Zlt {i:Nat} {x:Str} (hN:X.N.Nodup) (hi:X.N[i]? = some x) (hx:Loc X.env.scope x) (hf:X.fn x=true\/X.env.scope.names.lookup x=some .local:=by first | exact .inl rfl | exact .inr rfl | assumption):PG X (.Name x pos) (Zlb i):=by
 intro pins s σ H v u Q I r h
 exact wpAny_assign_Name (Zmb I hN hi hx r (fun s' I'=>⟨_,H,I',h⟩) hf)
nonrec def gNil:TGs:=fun vs σ H Q=>vs=[]/\Q σ H
nonrec def Zvh (t:TG) (u:TGs):TGs:=fun vs σ H Q=>∃ v r,vs=v::r/\t v σ H fun σ' H'=>u r σ' H' Q
theorem Zvs:PGs X [] gNil:=by
 intro pins s σ H vs us Q I r h
 obtain⟨e,h⟩:=h
 subst e
 cases r
 exact assignInOrder_nil ⟨σ,H,I,h⟩
theorem Zlu {e:Vw} {es:List Vw} {t:TG} {u:TGs} (h1:PG X e t) (h2:PGs X es u)
  (hs:(Uao (e::es) X.env).map (·.2)=Ucz e X.env::(Uao es X.env).map (·.2):=by rfl):PGs X (e::es) (Zvh t u):=by
 intro pins s σ H vs us Q I r h
 obtain⟨v,vr,e1,h⟩:=h
 subst e1
 cases r with
 | cons r rr =>
  rw[hs]
  refine assignInOrder_cons (thn (h1 pins s σ H _ _ _ I r h) fun _ s1 zz=>?_)
  obtain⟨σ1,H1,I1,q1⟩:=zz
  exact h2 pins s1 σ1 H1 _ _ Q I1 rr q1
nonrec def gTup (K:Xb) (n:Nat) (t:TGs):TG:=fun v σ H Q=>∃ a xs,v=.ref a/\SqT K H a xs/\xs.length=n/\t xs σ H Q
theorem Zyv {es:List Vw} {k:Nat} {t:TGs} {n:Nat} (hc:X.calm=true) (h:PGs X es t)
  (hn:(Uao es X.env).length=n:=by rfl) (hst:(Uao es X.env).findIdx? (·.1)=none:=by rfl):PG X (.Tuple es k pos) (gTup X.K n t):=by
 intro pins s σ H v u Q I r hw
 obtain⟨a,xs,e1,hq,hl,hw⟩:=hw
 subst e1
 cases r
 obtain⟨its,rv,ht,hz⟩:=I.tuple hq
 refine assign_Tuple_tuple (I.ok.hd hc) ht (by simp[hn,<- hl,rv.length]) hst fun h' hx=>?_
 have I1:Inv X pins σ H { s with heap:=h' }:=I.kept (t':=s.toks) fun b o e=>hx b o (Xi (Xe e)) e
 exact h pins _ σ H xs _ Q I1 (by simpa using rv) hw
nonrec def gSub (to ti:TE) (t:TSet):TG:=fun v σ H Q=>to σ H fun o H1=>ti σ H1 fun i H2=>t o i v H2 fun H3=>Q σ H3
theorem Ycw {o i:Vw} {to ti:TE} {t:TSet} (ho:PE X o to) (hi:PE X i ti) (hs:PSet X t)
  (ha:∀ v,Ucz (.Subscript o i pos) X.env v=(do
   let ov<-Udd [v] (eval o X.env)
   let iv<-Udd [v,ov] (eval i X.env)
   standAt pos
   Udd [v,ov,iv] (setItem ov iv v)
   release [v,ov,iv] []):=by intro _; rfl):PG X (.Subscript o i pos) (gSub to ti t):=by
 intro pins s σ H v u Q I r h
 rw[ha]
 refine Va (Uae (thn (ho pins s σ H _ I h) fun ov s1 zz=>?_))
 obtain⟨x,H1,I1,r1,q1⟩:=zz
 refine Va (Uae (thn (hi pins s1 σ H1 _ I1 q1) fun iv s2 zz=>?_))
 obtain⟨y,H2,I2,r2,q2⟩:=zz
 refine Va (Ubw (Va (Uae (thn (hs pins s2 σ H2 x y v ov iv u _ I2 r1 r2 r q2) fun _ s3 zz=>?_))))
 obtain⟨H3,I3,q3⟩:=zz
 exact wpAny_release ⟨σ,H3,I3,q3⟩
nonrec def tAsg (te:TE) (g:TG):TS:=fun D σ H=>te σ H fun x H1=>g x σ H1 D.nx
theorem Ye8 {tg e:Vw} {te:TE} {g:TG} (he:PE X e te) (hg:PG X tg g) (hs:swapsWithSole [tg] e pos.line X.env=pure false:=by rfl) (hw:swappedStores [tg] e X.env=pure none:=by rfl)
  (h1:(Uao [tg] X.env).map (·.2)=[Ucz tg X.env]:=by rfl):PS X (.Assign [tg] e pos) (tAsg te g):=by
 intro pins s σ H D I h
 refine wpAny_Assign_stores (thn (he pins s σ H _ I h) fun v s1 zz=>?_) hs hw
 obtain⟨x,H1,I1,r1,q1⟩:=zz
 rw[h1]
 exact thn (hg pins s1 σ H1 x v _ I1 r1 q1) fun _ s2 q=>q
theorem Yd7 {i:Nat} {x:Str} {e:Vw} {te:TE} {pos':Pos} (hN:X.N.Nodup) (hi:X.N[i]? = some x) (hx:Loc X.env.scope x) (he:PE X e te) (hs:Ucj e (some (.Name x pos')) pos.line X.env=pure false:=by rfl) (hf:X.fn x=true\/X.env.scope.names.lookup x=some .local:=by first | exact .inl rfl | exact .inr rfl | assumption) :
  PS X (.Assign [.Name x pos'] e pos) (tAsg te (Zlb i)):=by
 intro pins s σ H D I h
 refine wpAny_Assign_Name (thn (he pins s σ H _ I h) fun v s1 zz=>?_) hs
 obtain⟨y,H1,I1,r1,q1⟩:=zz
 exact Zmb I1 hN hi hx r1 (fun s2 I2=>⟨_,H1,I2,q1⟩) hf
nonrec def tAug (i:Nat) (te:TE) (ti:TIp):TS:=fun D σ H=>∃ x,σ[i]? = some (some x)/\te σ H fun y H1=>ti x y H1 fun z H2=>D.nx (σ.set i (some z)) H2
theorem Yet {i:Nat} {x:Str} {e:Vw} {te:TE} {op:Udt} {ti:TIp} {pos':Pos} (hN:X.N.Nodup) (hi:X.N[i]? = some x) (hx:Loc X.env.scope x) (he:PE X e te) (ho:PIp X op ti) (hf:X.fn x=true\/X.env.scope.names.lookup x=some .local:=by first | exact .inl rfl | exact .inr rfl | assumption) :
  PS X (.AugAssign (.Name x pos') op e pos) (tAug i te ti):=by
 intro pins s σ H D I h
 obtain⟨v,e1,h⟩:=h
 obtain⟨m,hn,hl⟩:=I.loc
 have vis:Vis X.env.scope x:=by rcases hx with k | k; exact .inl k; exact .inr (.inl k)
 obtain⟨u,r,l⟩:=hl i x v hi e1 vis
 refine wpAny_AugAssign_Name ?_
 have go:Vf (Vm X.prog X.w) X.A (eval e X.env) (fun w s₂=>Vf (Vm X.prog X.w) X.A (inplaceOp op u w) (fun r s₃=>Vf (Vm X.prog X.w) X.A (Udv X.env x r) (fun _=>SP X pins D .next) X.xe s₃) X.xe s₂) X.xe s:=by
  refine thn (he pins s σ H _ I h) fun w s1 zz=>?_
  obtain⟨y,H1,I1,r1,q1⟩:=zz
  refine thn (ho pins s1 σ H1 v y u w _ I1 r r1 q1) fun z s2 zz=>?_
  obtain⟨zv,H2,I2,r2,q2⟩:=zz
  exact Zmb I2 hN hi hx r2 (fun s3 I3=>⟨_,H2,I3,q2⟩) hf
 rcases l with ⟨hk,hm⟩ | ⟨hk,c,hc,hcell⟩
 ·exact Ucu I.ok.kind hk hn hm go
 ·rcases hk with hk | hk
  ·exact Udc I.ok.kind hk hc hcell go
  ·rcases hx with k | k
   ·have:X.env.scope.names.lookup x=some .free:=hk
    rw[k] at this; cases this
   ·have:X.env.scope.names.lookup x=some .free:=hk
    rw[k] at this; cases this
nonrec def ipI (f:Int->Int->Int):TIp:=fun x y H Q=>∃ i j,x=.int i/\y=.int j/\Q (.int (f i j)) H
theorem Ycz:PIp X .Sub (ipI fun i j=>i - j):=by
 intro pins s σ H x y v u Q I r1 r2 h
 obtain⟨i,j,e1,e2,q⟩:=h
 subst e1; subst e2
 obtain⟨t,rfl⟩:=r1
 obtain⟨t',rfl⟩:=r2
 exact isub_int ⟨.int _,H,I.tok _,⟨_,rfl⟩,q⟩
end
section
variable {X:Cx} {pos:Pos}
nonrec def Yff (c:TT) (tb:TS):TS:=fun D σ H=>∃ W:Nat->St->Hp->Prop,(∃ m,W m σ H)/\∀ m σ H,W m σ H ->
 c σ H fun b H1=>if b=true then ∃ N:St->Hp->Prop,(∀ σ' H',N σ' H'->∃ m',m'<m/\W m' σ' H')/\tb { D with nx:=N,ct:=N,bk:=D.nx } σ H1 else D.nx σ H1
theorem Zw6 {c:Vw} {body:List Uab} {tc:TT} {tb:TS} (hp:Udw (Vm X.prog X.w) X.A X.env X.xe) (hc:PT X c tc) (hb:PSs X body tb):PS X (.While c body [] pos) (Yff tc tb):=by
 intro pins s σ H D I h
 obtain⟨W,⟨m0,w0⟩,turn⟩:=h
 refine wpAny_While (codeAny_whileLoop (fun n s'=>∃ σ' H',Inv X pins σ' H' s'/\W n σ' H') ?_ m0 ⟨σ,H,I,w0⟩)
 rintro n s1 ⟨σ1,H1,I1,w1⟩
 refine Uai hp (thn (hc pins s1 σ1 H1 _ I1 (turn n σ1 H1 w1)) fun b s2 zz=>?_)
 obtain⟨H2,I2,q2⟩:=zz
 cases b with
 | true =>
  obtain⟨N,hN,q2⟩:=q2
  rw[if_pos rfl]
  refine Uai hp (thn (hb pins s2 σ1 H2 _ I2 q2) fun f s3 q3=>?_)
  cases f with
  | next =>
   obtain⟨σ3,H3,I3,n3⟩:=q3
   obtain⟨m',hm,w3⟩:=hN σ3 H3 n3
   exact⟨m',hm,σ3,H3,I3,w3⟩
  | cont =>
   obtain⟨σ3,H3,I3,n3⟩:=q3
   obtain⟨m',hm,w3⟩:=hN σ3 H3 n3
   exact⟨m',hm,σ3,H3,I3,w3⟩
  | brk=>exact q3
  | ret v=>exact q3
 | false =>
  rw[if_neg Wbl]
  exact Uci ⟨σ1,H2,I2,q2⟩
end
structure It where
 go:Nat->Hp->Prop
 yld:Nat->Hp->V->Hp->Prop
 stop:Nat->Hp->Prop
def Zlo (X:Cx) (pins:List (Ve×Obj)) (H:Hp) (b:Ve):Prop :=
 H b=none/\b≠X.env.locals/\b∉X.fs/\(b∈X.ex\/X.s₀.heap.objs.size<=b)/\(∀ x c,X.env.cells.lookup x=some c->c≠b)/\∀ p∈X.pn++pins,p.1≠b
theorem Inv.fpOk {X:Cx} {pins:List (Ve×Obj)} {σ:St} {H H':Hp} {s:Vd} {b:Ve} (I:Inv X pins σ H s) (hb:s.heap.objs.size<=b) (hn:H' b=none):Zlo X pins H' b:=by
 refine⟨hn,Wbt (Xk I.lt hb),I.nofs hb,.inr (Wag I.sz hb),fun x c e z=>?_,fun p hp z=>?_⟩
 ·obtain⟨v,q⟩:=I.cell x c e
  exact absurd (Xk q.lt (by rw[z]; exact hb)) (Waz _)
 ·exact absurd (Xk (Xe (I.pin p hp).1) (by rw[z]; exact hb)) (Waz _)
structure Turn (P:Vi) (w:Vu) (K:Xb) (tg:Vw) (J:It) (fp:List Ve) (it:Ve) (tn:Nat->Uaa->Prop):Prop where
 mem:it∈fp
 obj:∀ i h,tn i h->∀ b∈fp,∃ o,h.get? b=some o/\∀ v,o.data≠.cell v
 keep:∀ i h h',tn i h->(∀ b∈fp,∀ o,h.get? b=some o->h'.get? b=some o)->tn i h'
 item:∀ (X:Cx),X.prog=P->X.w=w->X.K=K->X.calm=true->∀ (i:Nat) (pins:List (Ve×Obj)) (s:Vd) (σ:St) (H:Hp) (E:Vb->Vd->Prop),Inv X pins σ H s->(∀ b∈fp,Zlo X pins H b)->tn i s.heap->J.go i H ->
  Vf (Vm P w) X.A (Ubg (.ref it)) (fun r s1=>∃ u,r=some u /\
   Vf (Vm P w) X.A (Uck tg (.ref it) u) (fun _ s2=>∃ x H',Inv X pins σ H' s2/\Zcg x u/\J.yld i H x H'/\tn (i+1) s2.heap/\∀ b∈fp,H' b=none) E s1) E s
 done:∀ (X:Cx),X.prog=P->X.w=w->X.K=K->X.calm=true->∀ (i:Nat) (pins:List (Ve×Obj)) (s:Vd) (σ:St) (H:Hp) (E:Vb->Vd->Prop),Inv X pins σ H s->(∀ b∈fp,Zlo X pins H b)->tn i s.heap->J.stop i H ->
  Vf (Vm P w) X.A (Ubg (.ref it)) (fun r s1=>r=none/\Inv X pins σ H s1) E s
 self:∀ (A:Vt) (i:Nat) (s:Vd) (Q:Vb->Vd->Prop) (E:Vb->Vd->Prop),tn i s.heap->Q (.ref it) s->Vf (Vm P w) A (pyIter (.ref it)) Q E s
nonrec abbrev TI:=St->Hp->(It->Hp->Prop)->Prop
def PIE (X:Cx) (pins:List (Ve×Obj)) (σ:St) (tg:Vw) (R:It->Hp->Prop) (itv:Vb) (s2:Vd):Prop :=
 ∃ (it:Ve) (fp:List Ve) (tn:Nat->Uaa->Prop) (J:It) (H':Hp),itv=.ref it/\Inv X pins σ H' s2/\Turn X.prog X.w X.K tg J fp it tn/\tn 0 s2.heap/\(∀ b∈fp,Zlo X pins H' b)/\R J H'
def PI (X:Cx) (tg iter:Vw) (wi:TI):Prop :=
 ∀ (pins:List (Ve×Obj)) (s:Vd) (σ:St) (H:Hp) (R:It->Hp->Prop),Inv X pins σ H s->wi σ H R ->
  Vf (Vm X.prog X.w) X.A (eval iter X.env) (fun v s1=>Vf (Vm X.prog X.w) X.A (pyIter v) (PIE X pins σ tg R) X.xe s1) X.xe s
theorem Zto {M:Model} {A:Vt} {E:Vb->Vd->Prop} {s:Vd} {tg:Vw} {it:Ve} {u:Vb} {o:Obj} {n:String} {vs:Array Vb} {Q:Unit->Vd->Prop} (ho:s.heap.get? it=some o) (hc:o.cls=.type n) (hd:o.data=.fields vs)
  (hn:["enumerate","zip","dict_itemiterator","dict_reverseitemiterator","odict_iterator","itertools.zip_longest","itertools.pairwise"].contains n=false) (hQ:Q () s):Vf M A (Uck tg (.ref it) u) Q E s:=by
 unfold Uck
 cases tg<;>first
  | exact Vc hQ
  | (cases u<;>first
    | exact Vc hQ
    | (refine Va (wpAny_load ho ?_)
       rw[hc,hd]
       show Vf M A (if (["enumerate","zip","dict_itemiterator","dict_reverseitemiterator","odict_iterator","itertools.zip_longest","itertools.pairwise"].contains n&&vs[0]? == some (Uag _))=true then _ else _) Q E s
       rw[if_neg (by intro h; rw[hn,Wga] at h; cases h)]
       exact Vc hQ))
nonrec def Itl (K:Xb) (a:Ve):It :=
 ⟨fun i H=>∃ xs x,SqL K H a xs/\xs[i]? = some x,fun i H x H'=>H'=H/\∀ xs,SqL K H a xs->xs[i]? = some x,fun i H=>∃ xs,SqL K H a xs/\xs.length<=i⟩
nonrec def Itt (K:Xb) (a:Ve):It :=
 ⟨fun i H=>∃ xs x,SqT K H a xs/\xs[i]? = some x,fun i H x H'=>H'=H/\∀ xs,SqT K H a xs->xs[i]? = some x,fun i H=>∃ xs,SqT K H a xs/\xs.length<=i⟩
nonrec def Itr (lo:Int) (n:Nat):It:=⟨fun i _=>i<n,fun i H x H'=>H'=H/\x=.int (lo+i),fun i _=>n<=i⟩
theorem Zu8 {P:Vi} {w:Vu} {K:Xb} {tg:Vw} (a it:Ve):Turn P w K tg (Itl K a) [it] it (fun i h=>h.IsListIter it a i) where
 mem:=by simp
 obj:=fun i h st b hb=>by
  have e:b=it:=by simpa using hb
  subst e
  obtain⟨o,e,c,d⟩:=st
  exact⟨o,e,fun v z=>by rw[d] at z; cases z⟩
 keep:=fun i h h' st k=>st.at fun o e=>k it (by simp) o e
 item:=by
  intro X hP hw hK hc i pins s σ H E I hf st hg
  subst hP hw hK
  obtain⟨xs,x,hq,hx⟩:=hg
  obtain⟨its,rv,p,hz⟩:=I.list hq
  obtain⟨u,hu,ru⟩:=rv.get hx
  obtain⟨f0,f1,f2,f3,f4,f5⟩:=hf it (by simp)
  refine wpAny_pyNext_list_item st p.isList (x:=u) (by simpa using hu) fun h' st' sb=>?_
  have I1:Inv X pins σ H { s with heap:=h' }:=I.turned (t':=s.toks) (fun b o hb e=>(sb.2 b hb).trans e) f0 f1 f3 f4 f5
  obtain⟨o,e,c,d⟩:=id st'
  exact⟨u,rfl,Zto (s:={ s with heap:=h' }) e c d (by decide) ⟨x,H,I1,ru,⟨rfl,fun ys hy=>by rw[I.list_inj hy hq]; exact hx⟩,st',fun b hb=>(hf b hb).1⟩⟩
 done:=by
  intro X hP hw hK hc i pins s σ H E I hf st hg
  subst hP hw hK
  obtain⟨xs,hq,hx⟩:=hg
  obtain⟨its,rv,p,hz⟩:=I.list hq
  obtain⟨f0,f1,f2,f3,f4,f5⟩:=hf it (by simp)
  have hl:=rv.length
  exact wpAny_pyNext_list_end (I.ok.hd hc) st p.isList (by simp; omega) fun h' eb=>⟨rfl,I.turned (t':=s.toks) (fun b o hb e=>eb b o hb e) f0 f1 f3 f4 f5⟩
 self:=fun _ _ _ _ _ st h=>wpAny_pyIter_listiter st h
theorem Zrs {P:Vi} {w:Vu} {K:Xb} {tg:Vw} (a it:Ve):Turn P w K tg (Itt K a) [it] it (fun i h=>h.IsTupleIter it a i) where
 mem:=by simp
 obj:=fun i h st b hb=>by
  have e:b=it:=by simpa using hb
  subst e
  obtain⟨o,e,c,d⟩:=st
  exact⟨o,e,fun v z=>by rw[d] at z; cases z⟩
 keep:=fun i h h' st k=>st.at fun o e=>k it (by simp) o e
 item:=by
  intro X hP hw hK hc i pins s σ H E I hf st hg
  subst hP hw hK
  obtain⟨xs,x,hq,hx⟩:=hg
  obtain⟨its,rv,p,hz⟩:=I.tuple hq
  obtain⟨u,hu,ru⟩:=rv.get hx
  obtain⟨f0,f1,f2,f3,f4,f5⟩:=hf it (by simp)
  refine wpAny_pyNext_tuple_item st (show s.heap.IsTuple a its.toArray from p) (x:=u) (by simpa using hu) fun h' st' sb=>?_
  have I1:Inv X pins σ H { s with heap:=h' }:=I.turned (t':=s.toks) (fun b o hb e=>(sb.2 b hb).trans e) f0 f1 f3 f4 f5
  obtain⟨o,e,c,d⟩:=id st'
  exact⟨u,rfl,Zto (s:={ s with heap:=h' }) e c d (by decide) ⟨x,H,I1,ru,⟨rfl,fun ys hy=>by rw[I.tuple_inj hy hq]; exact hx⟩,st',fun b hb=>(hf b hb).1⟩⟩
 done:=by
  intro X hP hw hK hc i pins s σ H E I hf st hg
  subst hP hw hK
  obtain⟨xs,hq,hx⟩:=hg
  obtain⟨its,rv,p,hz⟩:=I.tuple hq
  obtain⟨f0,f1,f2,f3,f4,f5⟩:=hf it (by simp)
  have hl:=rv.length
  exact wpAny_pyNext_tuple_end (I.ok.hd hc) st (show s.heap.IsTuple a its.toArray from p) (by simp; omega) fun h' eb=>⟨rfl,I.turned (t':=s.toks) (fun b o hb e=>eb b o hb e) f0 f1 f3 f4 f5⟩
 self:=fun _ _ _ _ _ st h=>wpAny_pyIter_tupleiter st h
theorem Zr8 {P:Vi} {w:Vu} {K:Xb} {tg:Vw} (it:Ve) (lo:Int) (n:Nat):Turn P w K tg (Itr lo n) [it] it (fun i h=>Ude h it (lo+(i:Nat)*1) ((n:Int) - (i:Nat)) 1) where
 mem:=by simp
 obj:=fun i h st b hb=>by
  have e:b=it:=by simpa using hb
  subst e
  exact⟨_,st,fun v z=>by
   have z':Data.fields _=Data.cell v:=z
   cases z'⟩
 keep:=fun i h h' st k=>k it (by simp) _ st
 item:=by
  intro X hP hw hK hc i pins s σ H E I hf st hg
  subst hP hw hK
  obtain⟨f0,f1,f2,f3,f4,f5⟩:=hf it (by simp)
  have W:=Walks.range (prog:=X.prog) (w:=X.w) (I.ok.hd hc) it lo 1 n
  refine W.item i s _ _ hg st fun v h' tk hv st' kk=>?_
  obtain⟨t,rfl⟩:=hv
  have I1:Inv X pins σ H { s with heap:=h',toks:=tk }:=I.turned (fun b o hb e=>kk b o (by simpa using hb) e) f0 f1 f3 f4 f5
  refine⟨_,rfl,Zto (s:={ s with heap:=h',toks:=tk }) (n := "range_iterator") st' rfl rfl (by decide) ⟨.int (lo+i),H,I1,⟨t,?_⟩,⟨rfl,rfl⟩,st',fun b hb=>(hf b hb).1⟩⟩
  rw[Int.mul_one]
 done:=by
  intro X hP hw hK hc i pins s σ H E I hf st hg
  subst hP hw hK
  obtain⟨f0,f1,f2,f3,f4,f5⟩:=hf it (by simp)
  exact Ucb (I.ok.hd hc) st (by have:n<=i:=hg; omega) fun h' eb=>⟨rfl,I.turned (t':=s.toks) (fun b o hb e=>eb b o hb e) f0 f1 f3 f4 f5⟩
 self:=fun _ _ _ _ _ st h=>Ucc st h
section
variable {X:Cx} {tg:Vw}
theorem Zya {pins:List (Ve×Obj)} {σ:St} {H:Hp} {s:Vd} {R:It->Hp->Prop} {E:Vb->Vd->Prop} {lo hi:Int} {t u v:Tok} {tk:Nat} (I:Inv X pins σ H s) (h1 : -(2 ^ 62)<=lo) (h2:lo<2 ^ 62) (h3 : -(2 ^ 62)<=hi) (h4:hi<2 ^ 62)
  (q:R (Itr lo (hi - lo).toNat) H):Vf (Vm X.prog X.w) X.A (pyIter (.ref s.heap.objs.size)) (PIE X pins σ tg R) E { s with heap:=s.heap.push { cls:=.type "range",data:=.fields #[.int lo t,.int hi u,.int 1 v] },toks:=tk }:=by
 refine wpAny_pyIter_range (Tcw ..) (small_one h1 h2 h3 h4) ?_
 have I1:Inv X pins σ H { s with heap:=s.heap.push { cls:=.type "range",data:=.fields #[.int lo t,.int hi u,.int 1 v] },toks:=tk }:=I.kept fun b o e=>Xa _ e
 refine⟨(s.heap.push { cls:=.type "range",data:=.fields #[.int lo t,.int hi u,.int 1 v] }).objs.size,[(s.heap.push { cls:=.type "range",data:=.fields #[.int lo t,.int hi u,.int 1 v] }).objs.size],_,_,H,rfl,
  I1.kept (t':=tk) fun b o e=>Xa _ e,Zr8 _ lo (hi - lo).toNat,?_,fun b hb=>?_,q⟩
 ·have e1:lo+((0:Nat):Int)*1=lo:=by simp
  have e2:(((hi - lo).toNat:Nat):Int) - ((0:Nat):Int)=Taa lo hi 1:=by rw[rangeSize_one]; split<;>omega
  show Ude _ _ (lo+((0:Nat):Int)*1) ((((hi - lo).toNat:Nat):Int) - ((0:Nat):Int)) 1
  rw[e1,e2]
  exact Xf _ rfl
 ·have e:b=(s.heap.push { cls:=.type "range",data:=.fields #[.int lo t,.int hi u,.int 1 v] }).objs.size:=by simpa using hb
  subst e
  exact I1.fpOk (Xd _) (I1.hok.fresh (Xd _))
nonrec def iRng1 (ta:TA):TI:=fun σ H R=>ta σ H fun vs H1=>∃ j:Int,vs=[.int j] /\ -(2 ^ 62)<=j/\j<2 ^ 62/\R (Itr 0 j.toNat) H1
theorem Zsn {a:Vw} {ta:TA} {p pos:Pos} (hg:Gl X "range") (hm:X.mg "range" = none) (ha:PA X [a] ta) (hs:Vg [a] X.env=[(false,eval a X.env)]:=by rfl):PI X tg (.Call (.Name "range" p) [a] [] pos) (iRng1 ta):=by
 intro pins s σ H R I h
 refine Call_ (Ze5 I hg hm boot_range (Ug (thn (ha pos pins s σ H _ I h) fun us s1 zz=>?_) hs rfl))
 obtain⟨vs,H1,I1,r1,q1⟩:=zz
 obtain⟨j,e,q1,q2,q⟩:=q1
 subst e
 cases r1 with
 | cons r rr =>
  cases rr
  obtain⟨t,rfl⟩:=r
  exact call_range_1 (Zya I1 (by omega) (by omega) q1 q2 (by simpa using q))
nonrec def tFor (wi:TI) (g:TG) (tb:TS):TS:=fun D σ H=>wi σ H fun J H1=>∃ W:Nat->Nat->St->Hp->Prop,(∃ m,W 0 m σ H1)/\∀ i m σ H,W i m σ H ->
 (J.stop i H/\D.nx σ H)\/(J.go i H/\∃ N:St->Hp->Prop,(∀ σ' H',N σ' H'->∃ m',m'<m/\W (i+1) m' σ' H')/\∀ x H',J.yld i H x H'->g x σ H' fun σ2 H2=>tb { D with nx:=N,ct:=N,bk:=D.nx } σ2 H2)
nonrec def Zkh (fp:List Ve) (h:Uaa):List (Ve×Obj):=fp.filterMap fun b=>(h.get? b).map fun o=>(b,o)
theorem Zdo {fp:List Ve} {h:Uaa} {b:Ve} {o:Obj} (hb:b∈fp) (e:h.get? b=some o):(b,o)∈Zkh fp h:=Wcx.mpr ⟨b,hb,by rw[e]; rfl⟩
theorem Zst {fp:List Ve} {h:Uaa} {p:Ve×Obj} (hp:p∈Zkh fp h):p.1∈fp/\h.get? p.1=some p.2:=by
 obtain⟨b,hb,e⟩:=Wcx.mp hp
 cases q:h.get? b with
 | none=>rw[q] at e; cases e
 | some o =>
  rw[q] at e
  have e':(b,o)=p:=Wac.inj e
  subst e'
  exact⟨hb,q⟩
theorem Inv.pinned {pins:List (Ve×Obj)} {σ:St} {H:Hp} {s:Vd} {fp:List Ve} (I:Inv X pins σ H s) (hf:∀ b∈fp,Zlo X pins H b) (ho:∀ b∈fp,∃ o,s.heap.get? b=some o/\∀ v,o.data≠.cell v):Inv X (pins++Zkh fp s.heap) σ H s :=
 I.pins_of fun p hp=>(Xm.mp hp).elim (fun z=>I.pin p (Xw _ z)) fun z=>by
  obtain⟨hb,e⟩:=Zst z
  obtain⟨f0,f1,f2,_⟩:=hf p.1 hb
  obtain⟨o,e',d⟩:=ho p.1 hb
  rw[e] at e'; cases e'
  exact⟨e,f0,f1,f2,d⟩
theorem Inv.unpinned {pins pl:List (Ve×Obj)} {σ:St} {H:Hp} {s:Vd} (I:Inv X (pins++pl) σ H s):Inv X pins σ H s:=I.pins_of fun p hp=>I.pin p (Xw _ (Wak _ hp))
theorem Yc4 {iter:Vw} {body:List Uab} {wi:TI} {g:TG} {tb:TS} {pos:Pos} (hp:Udw (Vm X.prog X.w) X.A X.env X.xe) (hc:X.calm=true) (hi:PI X tg iter wi) (hg:PG X tg g) (hb:PSs X body tb)
  (hs:∀ x,Vx iter X.env x=pure x:=by intro _; rfl):PS X (.For tg iter body [] pos) (tFor wi g tb):=by
 intro pins s σ H D I h
 refine wpAny_For (thn (hi pins s σ H _ I h) fun v s1 h1=>thn h1 fun itv s2 h2=>?_) hs
 obtain⟨it,fp,tn,J,H2,e,I2,T,st2,f2,W,⟨m0,w0⟩,turn⟩:=h2
 subst e
 -- what stays true of the iterator's objects through the loop
 have stat:∀ {H':Hp},(∀ b∈fp,H' b=none)->∀ b∈fp,Zlo X pins H' b:=fun hn b hb=>⟨hn b hb,(f2 b hb).2⟩
 refine codeAny_forLoop_any (fun n s'=>∃ i σ' H',Inv X pins σ' H' s'/\tn i s'.heap/\(∀ b∈fp,H' b=none)/\W i n σ' H') ?_ m0 ⟨0,σ,H2,I2,st2,fun b hb=>(f2 b hb).1,w0⟩
 rintro n s3 ⟨i,σ3,H3,I3,st3,fr3,w3⟩
 rcases turn i n σ3 H3 w3 with ⟨stop,qn⟩ | ⟨go,N,hN,step⟩
 ·refine Uai hp (thn (T.done X rfl rfl rfl hc i pins s3 σ3 H3 X.xe I3 (stat fr3) st3 stop) fun r s4 zz=>?_)
  obtain⟨hr,I4⟩:=zz
  subst hr
  exact Uci ⟨σ3,H3,I4,qn⟩
 ·refine Uai hp (thn (T.item X rfl rfl rfl hc i pins s3 σ3 H3 X.xe I3 (stat fr3) st3 go) fun r s4 zz=>?_)
  obtain⟨u,hr,h4⟩:=zz
  subst hr
  refine Uai hp (thn h4 fun _ s5 zz=>?_)
  obtain⟨x,H5,I5,r5,y5,st5,fr5⟩:=zz
  have I5':=I5.pinned (stat fr5) (T.obj _ _ st5)
  refine Uai hp (thn (hg _ s5 σ3 H5 x u _ I5' r5 (step x H5 y5)) fun _ s6 zz=>?_)
  obtain⟨σ6,H6,I6,q6⟩:=zz
  refine Uai hp (thn (hb _ s6 σ6 H6 _ I6 q6) fun f s7 q7=>?_)
  have again:∀ {σ7:St} {H7:Hp},Inv X (pins++Zkh fp s5.heap) σ7 H7 s7->N σ7 H7->∃ m,m<n/\∃ i σ' H',Inv X pins σ' H' s7/\tn i s7.heap/\(∀ b∈fp,H' b=none)/\W i m σ' H':=fun {σ7 H7} I7 n7=>by
   obtain⟨m',hm,w7⟩:=hN σ7 H7 n7
   refine⟨m',hm,i+1,σ7,H7,I7.unpinned,T.keep _ _ _ st5 fun b hb o e=>(I7.pin (b,o) (Xw _ (Xw _ (Zdo hb e)))).1,fun b hb=>?_,w7⟩
   obtain⟨o,e,d⟩:=T.obj _ _ st5 b hb
   exact(I7.pin (b,o) (Xw _ (Xw _ (Zdo hb e)))).2.1
  cases f with
  | next=>obtain⟨σ7,H7,I7,n7⟩:=q7; exact again I7 n7
  | cont=>obtain⟨σ7,H7,I7,n7⟩:=q7; exact again I7 n7
  | brk=>obtain⟨σ7,H7,I7,q7⟩:=q7; exact⟨σ7,H7,I7.unpinned,q7⟩
  | ret v=>obtain⟨x7,σ7,H7,I7,r7,q7⟩:=q7; exact⟨x7,σ7,H7,I7.unpinned,r7,q7⟩
end
nonrec abbrev R2:=V->V->Hp->VK->Prop
def OpR (X:Cx) (f:Vb->Vb->Sem Vb) (r:R2):Prop :=
 ∀ (pins:List (Ve×Obj)) (s:Vd) (σ:St) (H:Hp) (x y:V) (v u:Vb) (Q:VK),Inv X pins σ H s->Zcg x v->Zcg y u->r x y H Q ->
  Vf (Vm X.prog X.w) X.A (f v u) (EP X pins σ Q) X.xe s
def UnR (X:Cx) (f:Vb->Sem Vb) (r:V->Hp->VK->Prop):Prop :=
 ∀ (pins:List (Ve×Obj)) (s:Vd) (σ:St) (H:Hp) (x:V) (v:Vb) (Q:VK),Inv X pins σ H s->Zcg x v->r x H Q ->
  Vf (Vm X.prog X.w) X.A (f v) (EP X pins σ Q) X.xe s
def Zj8 (X:Cx) (f:Vb) (r:List V->Hp->VK->Prop):Prop :=
 ∀ (pins:List (Ve×Obj)) (s:Vd) (σ:St) (H:Hp) (xs:List V) (us:List Vb) (Q:VK),Inv X pins σ H s->Zb7 xs us->r xs H Q ->
  Vf (Vm X.prog X.w) X.A (call f us) (EP X pins σ Q) X.xe s
def TruR (X:Cx) (r:V->Hp->(Bool->Hp->Prop)->Prop):Prop :=
 ∀ (pins:List (Ve×Obj)) (s:Vd) (σ:St) (H:Hp) (x:V) (v:Vb) (Q:Bool->Hp->Prop),Inv X pins σ H s->Zcg x v->r x H Q ->
  Vf (Vm X.prog X.w) X.A (truthy v) (TP X pins σ Q) X.xe s
nonrec def tOp (r:R2) (ta tb:TE):TE:=fun σ H Q=>ta σ H fun x H1=>tb σ H1 fun y H2=>r x y H2 Q
nonrec def tUn (r:V->Hp->VK->Prop) (ta:TE):TE:=fun σ H Q=>ta σ H fun x H1=>r x H1 Q
nonrec def rI (C:Int->Int->Prop) (g:Int->Int->V):R2:=fun x y H Q=>∃ i j,x=.int i/\y=.int j/\C i j/\Q (g i j) H
nonrec def rI0 (g:Int->Int->V):R2:=fun x y H Q=>∃ i j,x=.int i/\y=.int j/\Q (g i j) H
nonrec def rU (g:Int->V):V->Hp->VK->Prop:=fun x H Q=>∃ i,x=.int i/\Q (g i) H
section
variable {X:Cx} {a b c:Vw} {ta tb tc:TE} {pos:Pos}
theorem binT (ha:PE X a ta) (hb:PE X b tb) {pins:List (Ve×Obj)} {s:Vd} {σ:St} {H:Hp} {R:V->V->Hp->Prop} (I:Inv X pins σ H s)
  (h:ta σ H fun x H1=>tb σ H1 fun y H2=>R x y H2) {Q:Vb->Vd->Prop} {f:Vb->Vb->Sem Vb}
  (hf:∀ v u s2 x y H2,Inv X pins σ H2 s2->Zcg x v->Zcg y u->R x y H2->Vf (Vm X.prog X.w) X.A (f v u) Q X.xe s2) :
  Vf (Vm X.prog X.w) X.A (eval a X.env) (fun v s₁=>Vf (Vm X.prog X.w) X.A (eval b X.env) (fun u s₂=>Vf (Vm X.prog X.w) X.A (f v u) Q X.xe s₂) X.xe s₁) X.xe s:=by
 refine thn (ha pins s σ H _ I h) fun v s1 zz=>?_
 obtain⟨x,H1,I1,r1,q1⟩:=zz
 refine thn (hb pins s1 σ H1 _ I1 q1) fun u s2 zz=>?_
 obtain⟨y,H2,I2,r2,q2⟩:=zz
 exact hf v u s2 x y H2 I2 r1 r2 q2
theorem pe_op {op:Udt} {r:R2} (ho:OpR X (Vy op) r) (ha:PE X a ta) (hb:PE X b tb):PE X (.BinOp a op b pos) (tOp r ta tb):=by
 intro pins s σ H Q I h
 exact wpAny_BinOp (binT ha hb I h fun v u s2 x y H2 I2 rx ry q=>ho pins s2 σ H2 x y v u Q I2 rx ry q)
theorem pe_un {op:UnaryOp} {r:V->Hp->VK->Prop} (ho:UnR X (unaryOp op) r) (ha:PE X a ta):PE X (.UnaryOp op a pos) (tUn r ta):=by
 intro pins s σ H Q I h
 exact UnaryOp_ (thn (ha pins s σ H _ I h) fun v s1 ⟨x,H1,I1,r1,q1⟩=>ho pins s1 σ H1 x v Q I1 r1 q1)
theorem opI {f:Vb->Vb->Sem Vb} {C:Int->Int->Prop} {g:Int->Int->Int}
  (rule:∀ (i j:Int) (t u:Tok) (s:Vd) (Q:Vb->Vd->Prop) (E:Vb->Vd->Prop),C i j->Q (.int (g i j) s.toks) { s with toks:=s.toks+1 }->Vf (Vm X.prog X.w) X.A (f (.int i t) (.int j u)) Q E s) :
  OpR X f (rI C fun i j=>.int (g i j)):=by
 intro pins s σ H x y v u Q I rx ry h
 obtain⟨i,j,rfl,rfl,hc,q⟩:=h
 obtain⟨t,rfl⟩:=rx
 obtain⟨t',rfl⟩:=ry
 exact rule i j t t' s _ _ hc ⟨.int (g i j),H,I.tok _,⟨_,rfl⟩,q⟩
theorem opI0 {f:Vb->Vb->Sem Vb} {g:Int->Int->Int}
  (rule:∀ (i j:Int) (t u:Tok) (s:Vd) (Q:Vb->Vd->Prop) (E:Vb->Vd->Prop),Q (.int (g i j) s.toks) { s with toks:=s.toks+1 }->Vf (Vm X.prog X.w) X.A (f (.int i t) (.int j u)) Q E s) :
  OpR X f (rI0 fun i j=>.int (g i j)):=by
 intro pins s σ H x y v u Q I rx ry h
 obtain⟨i,j,rfl,rfl,q⟩:=h
 obtain⟨t,rfl⟩:=rx
 obtain⟨t',rfl⟩:=ry
 exact rule i j t t' s _ _ ⟨.int (g i j),H,I.tok _,⟨_,rfl⟩,q⟩
theorem opB0 {f:Vb->Vb->Sem Vb} {g:Int->Int->Bool}
  (rule:∀ (i j:Int) (t u:Tok) (s:Vd) (Q:Vb->Vd->Prop) (E:Vb->Vd->Prop),Q (.bool (g i j)) s->Vf (Vm X.prog X.w) X.A (f (.int i t) (.int j u)) Q E s) :
  OpR X f (rI0 fun i j=>.bl (g i j)):=by
 intro pins s σ H x y v u Q I rx ry h
 obtain⟨i,j,rfl,rfl,q⟩:=h
 obtain⟨t,rfl⟩:=rx
 obtain⟨t',rfl⟩:=ry
 exact rule i j t t' s _ _ ⟨.bl (g i j),H,I,rfl,q⟩
def Yck (i j:Int):Prop:=0<j/\j<1073741824
def Yce (i j:Int):Prop:=0<=j/\j<=1000000/\i.natAbs<2 ^ 64
def Zzm (i j:Int):Prop:=(-(2 ^ 64)<i/\i<2 ^ 64)\/(-(2 ^ 64)<j/\j<2 ^ 64)
theorem Zzm.ok {i j:Int} (h:Zzm i j):IntMulOk i j:=by
 rcases h with ⟨h1,h2⟩ | ⟨h1,h2⟩
 ·exact .of_left (intBits_le_64 h1 h2)
 ·exact .of_right (intBits_le_64 h1 h2)
theorem Yd6:OpR X (Vy .Add) (rI0 fun i j=>.int (i+j)):=opI0 fun _ _ _ _ _ _ _ q=>add_int q
theorem Ycb:OpR X (Vy .Sub) (rI0 fun i j=>.int (i - j)):=opI0 fun _ _ _ _ _ _ _ q=>sub_int q
theorem Ye6:OpR X (Vy .Mult) (rI Zzm fun i j=>.int (i*j)):=opI fun _ _ _ _ _ _ _ hc q=>mul_int q hc.ok
theorem Zz2:OpR X (Vy .FloorDiv) (rI Yck fun i j=>.int (i / j)):=opI fun i j _ _ _ _ _ hc q=>by
 have h1:(0:Int)<j:=hc.1
 have h2:j<1073741824:=hc.2
 exact floordiv_int (by omega) (by rw[Int.fdiv_eq_ediv_of_nonneg i (by omega)]; exact q) (.inl (Tbn (by omega)))
theorem Ycd:OpR X (Vy .Mod) (rI (fun _ j=>0<j) fun i j=>.int (i % j)):=opI fun i j _ _ _ _ _ hc q=>by
 have h1:(0:Int)<j:=hc
 exact mod_int' (by omega) (by rw[Int.fmod_eq_emod_of_nonneg i (by omega)]; exact q)
theorem Yc1:OpR X (Vy .Pow) (rI Yce fun i j=>.int (i ^ j.toNat)):=opI fun _ _ _ _ _ _ _ hc q=>pow_int_small hc.1 hc.2.1 hc.2.2 q
theorem unI {f:Vb->Sem Vb} {g:Int->Int}
  (rule:∀ (i:Int) (t:Tok) (s:Vd) (Q:Vb->Vd->Prop) (E:Vb->Vd->Prop),Q (.int (g i) s.toks) { s with toks:=s.toks+1 }->Vf (Vm X.prog X.w) X.A (f (.int i t)) Q E s) :
  UnR X f (rU fun i=>.int (g i)):=by
 intro pins s σ H x v Q I rx h
 obtain⟨i,rfl,q⟩:=h
 obtain⟨t,rfl⟩:=rx
 exact rule i t s _ _ ⟨.int (g i),H,I.tok _,⟨_,rfl⟩,q⟩
theorem Ydl:UnR X (unaryOp .USub) (rU fun i=>.int (-i)):=unI fun _ _ _ _ _ q=>neg_int q
end
section
variable {X:Cx} {a b c:Vw} {ta tb tc:TE} {pos:Pos}
theorem op_lt:OpR X (Vq .Lt) (rI0 fun i j=>.bl (decide (i<j))):=opB0 fun _ _ _ _ _ _ _ q=>lt_int q
theorem op_le:OpR X (Vq .LtE) (rI0 fun i j=>.bl (decide (i<=j))):=opB0 fun _ _ _ _ _ _ _ q=>le_int q
theorem op_gt:OpR X (Vq .Gt) (rI0 fun i j=>.bl (decide (j<i))):=opB0 fun _ _ _ _ _ _ _ q=>gt_int q
theorem op_ge:OpR X (Vq .GtE) (rI0 fun i j=>.bl (decide (j<=i))):=opB0 fun _ _ _ _ _ _ _ q=>ge_int q
theorem Zav (b:Vw) {op:Ueg} (h:op≠.In:=by decide) (h2:op≠.NotIn:=by decide):Uav op b=false:=by
 have e1:(op==CmpOp.In)=false:=by cases op<;>first | rfl | exact absurd rfl h
 have e2:(op==CmpOp.NotIn)=false:=by cases op<;>first | rfl | exact absurd rfl h2
 cases b<;>simp[Uav,e1,e2]
theorem Yap {op:Ueg} {r:R2} (ho:OpR X (Vq op) r) (ha:PE X a ta) (hb:PE X b tb) (hm:Uav op b=false):PE X (.Compare a [op] [b] pos) (tOp r ta tb):=by
 intro pins s σ H Q I h
 exact wpAny_Compare1 (binT ha hb I h fun v u s2 x y H2 I2 rx ry q=>ho pins s2 σ H2 x y v u Q I2 rx ry q) hm
nonrec def Ych (t:TE):TT:=fun σ H Q=>t σ H fun x H'=>∃ k,x=.bl k/\Q k H'
theorem Yae {op:Ueg} {r:R2} (ho:OpR X (Vq op) r) (ha:PE X a ta) (hb:PE X b tb) (hm:Uav op b=false):PT X (.Compare a [op] [b] pos) (Ych (tOp r ta tb)):=by
 intro pins s σ H Q I h
 refine wpAny_isTrue_Compare1 (thn (ha pins s σ H _ I h) fun v s1 ⟨x,H1,I1,r1,q1⟩=>thn (hb pins s1 σ H1 _ I1 q1) fun u s2 ⟨y,H2,I2,r2,q2⟩ =>
  thn (ho pins s2 σ H2 x y v u _ I2 r1 r2 q2) fun c s3 ⟨z,H3,I3,r3,k,e,q3⟩=>?_) hm
 subst e
 cases r3
 exact Vv ⟨H3,I3,q3⟩
nonrec def Zv4 (r r':R2) (ta tb tc:TE):TE:=fun σ H Q=>ta σ H fun x H1=>tb σ H1 fun y H2=>r x y H2 fun z H3=>∃ k,z=.bl k /\
 (if k=true then tc σ H3 fun w' H4=>r' y w' H4 Q else Q (.bl false) H3)
theorem Zxw {op op':Ueg} {r r':R2} (ho:OpR X (Vq op) r) (ho':OpR X (Vq op') r') (ha:PE X a ta) (hb:PE X b tb) (hc:PE X c tc)
  (hm:Udx [op,op'] [b,c]=false:=by with_unfolding_all rfl):PE X (.Compare a [op,op'] [b,c] pos) (Zv4 r r' ta tb tc):=by
 intro pins s σ H Q I h
 refine Compare_chain (thn (ha pins s σ H _ I h) fun v s1 ⟨x,H1,I1,r1,q1⟩=>chain_link (thn (hb pins s1 σ H1 _ I1 q1) fun u s2 ⟨y,H2,I2,r2,q2⟩ =>
  thn (ho pins s2 σ H2 x y v u _ I2 r1 r2 q2) fun d s3 ⟨z,H3,I3,r3,k,e,q3⟩=>?_)) hm
 subst e
 cases r3
 refine Vv ?_
 cases k with
 | false=>exact ite_ff ⟨.bl false,H3,I3,rfl,q3⟩
 | true=>exact ite_tt (chain_last (thn (hc pins s3 σ H3 _ I3 q3) fun w' s4 ⟨z',H4,I4,r4,q4⟩=>ho' pins s4 σ H4 y z' u w' Q I4 r2 r4 q4))
theorem Zyh {op op':Ueg} {r r':R2} (ho:OpR X (Vq op) r) (ho':OpR X (Vq op') r') (ha:PE X a ta) (hb:PE X b tb) (hc:PE X c tc)
  (hm:Udx [op,op'] [b,c]=false:=by with_unfolding_all rfl):PT X (.Compare a [op,op'] [b,c] pos) (Ych (Zv4 r r' ta tb tc)):=by
 intro pins s σ H Q I h
 refine isTrue_chain (thn (ha pins s σ H _ I h) fun v s1 ⟨x,H1,I1,r1,q1⟩=>test_link (thn (hb pins s1 σ H1 _ I1 q1) fun u s2 ⟨y,H2,I2,r2,q2⟩ =>
  thn (ho pins s2 σ H2 x y v u _ I2 r1 r2 q2) fun d s3 ⟨z,H3,I3,r3,k,e,q3⟩=>?_)) hm
 subst e
 cases r3
 refine Vv ?_
 cases k with
 | false =>
  obtain⟨k',e',q'⟩:=q3
  cases e'
  exact ite_ff ⟨H3,I3,q'⟩
 | true =>
  refine ite_tt (test_last (thn (hc pins s3 σ H3 _ I3 q3) fun w' s4 ⟨z',H4,I4,r4,q4⟩=>thn (ho' pins s4 σ H4 y z' u w' _ I4 r2 r4 q4) fun d' s5 zz=>?_))
  obtain⟨z2,H5,I5,r5,k2,e2,q5⟩:=zz
  subst e2
  cases r5
  exact Vv ⟨H5,I5,q5⟩
def TruV (K:Xb) (x:V) (H:Hp) (k:Bool):Prop :=
 match x with
 | .non=>k=false
 | .bl b=>k=b
 | .int i=>k=(i != 0)
 | .str y=>y.length<=sizeLine/\k=((y.length:Int) != 0)
 | .byt y=>y.size<=sizeLine/\k=((y.size:Int) != 0)
 | .ref p=>(∃ xs,SqL K H p xs/\k = !xs.isEmpty)\/(∃ xs,SqT K H p xs/\k = !xs.isEmpty)\/∃ kvs,H p=some (.dK kvs)/\k = !kvs.isEmpty
 | _=>False
theorem Zsh {κ:Type} {kvs:List (κ×V)} {vs:List (κ×Vb)} (r:KV kvs vs):(!vs.isEmpty) = !kvs.isEmpty:=by
 cases r<;>rfl
theorem Zk3 {xs:List V} {its:List Vb} (r:Zb7 xs its):(!its.toArray.isEmpty) = !xs.isEmpty:=by
 cases r<;>simp
theorem Znw:(sizeLine:Nat)<2 ^ 63:=by rw[Ubb]; decide
theorem Yd8:TruR X (fun x H Q=>∃ k,TruV X.K x H k/\Q k H):=by
 intro pins s σ H x v Q I rx h
 obtain⟨k,e,q⟩:=h
 have hl:=Znw
 have hs:sizeLine=16777216:=Ubb
 cases x with
 | non =>
  cases rx
  have e':k=false:=e
  subst e'
  exact truthy_none ⟨H,I,q⟩
 | bl b =>
  cases rx
  have e':k=b:=e
  subst e'
  exact Vv ⟨H,I,q⟩
 | int i =>
  obtain⟨t,rfl⟩:=rx
  have e':k=(i != 0):=e
  subst e'
  exact PySem.P.truthy_int ⟨H,I,q⟩
 | str y =>
  obtain⟨t,rfl⟩:=rx
  obtain⟨hy,e'⟩:y.length<=sizeLine/\k=((y.length:Int) != 0):=e
  subst e'
  exact PySem.P.truthy_str (by omega) ⟨H,I.tok _,q⟩
 | byt y =>
  obtain⟨t,rfl⟩:=rx
  obtain⟨hy,e'⟩:y.size<=sizeLine/\k=((y.size:Int) != 0):=e
  subst e'
  exact PySem.W.truthy_bytes (by omega) ⟨H,I.tok _,q⟩
 | ref p =>
  cases rx
  have e':(∃ xs,SqL X.K H p xs/\k = !xs.isEmpty)\/(∃ xs,SqT X.K H p xs/\k = !xs.isEmpty)\/∃ kvs,H p=some (.dK kvs)/\k = !kvs.isEmpty:=e
  rcases e' with ⟨xs,hx,e'⟩ | ⟨xs,hx,e'⟩ | ⟨kvs,hx,e'⟩
  ·subst e'
   obtain⟨its,r,pl,hz⟩:=I.list hx
   have hlen:=r.length
   exact wpAny_truthy_list pl.isList (by simp only[Xp]; omega) ⟨H,I.tok _,by rw[Zk3 r]; exact q⟩
  ·subst e'
   obtain⟨its,r,pl,hz⟩:=I.tuple hx
   have hlen:=r.length
   exact truthy_tuple pl (by simp only[Xp]; omega) ⟨H,I.tok _,by rw[Zk3 r]; exact q⟩
  ·subst e'
   obtain⟨hz,hS,vs,r,m⟩:kvs.length<=sizeLine/\(p==Uaf)=false/\∃ vs,KV kvs vs/\s.heap.DictOf (Zph X.prog X.w) p vs:=I.hok p _ hx
   have hlen:kvs.length=vs.length:=Tcu r
   exact wpAny_truthy_dict hS m (by omega) ⟨H,I.tok _,by rw[Zsh r]; exact q⟩
 | _=>exact(show False from e).elim
theorem Zyb (ha:PE X a ta) (he:∀ whole,isTrue a X.env whole=(do let v<-whole; standAt a.pos; Udd [v] (truthy v))) :
  PT X a (fun σ H Q=>ta σ H fun x H'=>∃ k,TruV X.K x H' k/\Q k H'):=by
 intro pins s σ H Q I h
 exact isTrue_plain (thn (ha pins s σ H _ I h) fun v s1 ⟨x,H1,I1,r1,q1⟩=>Yd8 pins s1 σ H1 x v Q I1 r1 q1) (he _)
theorem Zr9:OpR X (Vy .Add) (fun x y H Q=>∃ i j,x=.str i/\y=.str j/\i.length+j.length<=sizeLine/\Q (.str (i++j)) H):=by
 intro pins s σ H x y v u Q I rx ry h
 obtain⟨i,j,rfl,rfl,hz,q⟩:=h
 obtain⟨t,rfl⟩:=rx
 obtain⟨t',rfl⟩:=ry
 exact add_str (fun t' tk=>⟨.str (i++j),H,I.tok _,⟨_,rfl⟩,q⟩) hz
theorem Zi5 {x:V} {us:List Vb} (r:Zb7 [x] us):∃ u,us=[u]/\Zcg x u:=by
 cases r with
 | cons r1 r2=>cases r2; exact⟨_,rfl,r1⟩
theorem Zxp {x y:V} {us:List Vb} (r:Zb7 [x,y] us):∃ u w',us=[u,w']/\Zcg x u/\Zcg y w':=by
 cases r with
 | cons r1 r2 =>
  cases r2 with
  | cons r3 r4=>cases r4; exact⟨_,_,rfl,r1,r3⟩
theorem Zw7:Zj8 X (.builtin "abs") (fun xs H Q=>∃ i,xs=[.int i]/\Q (.int (if i<0 then -i else i)) H):=by
 intro pins s σ H xs us Q I r h
 obtain⟨i,rfl,q⟩:=h
 obtain⟨u,rfl,t,rfl⟩:=Zi5 r
 exact Udq fun u tk=>⟨.int (if i<0 then -i else i),H,I.tok _,⟨_,rfl⟩,q⟩
theorem Ztz (hc:X.calm=true):Zj8 X (.builtin "max") (fun xs H Q=>∃ i j,xs=[.int i,.int j]/\Q (.int (if j > i then j else i)) H):=by
 intro pins s σ H xs us Q I r h
 obtain⟨i,j,rfl,q⟩:=h
 obtain⟨u,w',rfl,⟨t,rfl⟩,⟨t',rfl⟩⟩:=Zxp r
 refine max_two_ints (I.ok.hd hc) fun h' tk k=>⟨_,H,I.kept k,?_,q⟩
 by_cases hj:j > i
 ·rw[if_pos hj,if_pos hj]; exact⟨_,rfl⟩
 ·rw[if_neg hj,if_neg hj]; exact⟨_,rfl⟩
theorem Znt:Zj8 X (.type "int") (fun xs H Q=>(∃ i,xs=[.int i]/\Q (.int i) H)\/∃ k,xs=[.bl k]/\Q (.int (if k then 1 else 0)) H):=by
 intro pins s σ H xs us Q I r h
 rcases h with ⟨i,rfl,q⟩ | ⟨k,rfl,q⟩
 ·obtain⟨u,rfl,t,rfl⟩:=Zi5 r
  exact call_int_int ⟨.int i,H,I,⟨_,rfl⟩,q⟩
 ·obtain⟨u,rfl,r1⟩:=Zi5 r
  cases r1
  exact call_int_bool ⟨.int (if k then 1 else 0),H,I.tok _,⟨_,rfl⟩,q⟩
end
structure Room (k:Nat) (A:Vt):Prop where
 hd:A.handled=none
 dp:A.depth+3*k+5<recursionLimit
 un:A.units+16*k+200<cLine
 gd:A.guards=some []
theorem Room.mono {j k:Nat} {A:Vt} (r:Room k A) (h:j<=k):Room j A:=⟨r.hd,by have:=r.dp; omega,by have:=r.un; omega,r.gd⟩
theorem Room.deeper {k:Nat} {A:Vt} (r:Room (k+1) A) (env:Env):Room k (A.deeper env) :=
 ⟨r.hd,by have:=r.dp; show A.depth+1+3*k+5<_; omega,by have:=r.un; show A.units+3+16*k+200<_; omega,r.gd⟩
theorem Room.depth {k:Nat} {A:Vt} (r:Room k A):A.depth<recursionLimit:=by have:=r.dp; omega
theorem Room.units {k:Nat} {A:Vt} (r:Room k A):A.units+64<cLine:=by have:=r.un; omega
nonrec def tNil:TA:=fun _ H Q=>Q [] H
nonrec def tCons (ta:TE) (tr:TA):TA:=fun σ H Q=>ta σ H fun x H1=>tr σ H1 fun xs H2=>Q (x::xs) H2
section
variable {X:Cx} {e:Vw} {es:List Vw} {te:TE} {t:TA} {pos:Pos}
theorem Yde:PA X [] tNil:=fun _ _ _ _ H Q I h=>Calls.spliced_nil ⟨[],H,I,.nil,h⟩
theorem Yba (ha:PE X e te) (hr:PA X es t) (hs:Vg (e::es) X.env=(false,eval e X.env)::Vg es X.env:=by rfl):PA X (e::es) (tCons te t):=by
 intro pos pins s σ H Q I h
 rw[hs]
 show Vf _ _ (spliced ((false,eval e X.env)::Uam pos (Vg es X.env))) _ _ s
 refine Calls.spliced_cons (thn (ha pins s σ H _ I h) fun u s1 zz=>?_)
 obtain⟨x,H1,I1,r1,q1⟩:=zz
 exact thn (hr pos pins s1 σ H1 _ I1 q1) fun us s2 ⟨xs,H2,I2,r2,q2⟩=>⟨x::xs,H2,I2,.cons r1 r2,q2⟩
nonrec def tTup (t:TA):TE:=fun σ H Q=>t σ H fun xs H1=>xs.length<=sizeLine/\∀ p,H1 p=none->Q (.ref p) (upd H1 p (.tup xs))
nonrec def tLst (t:TA):TE:=fun σ H Q=>t σ H fun xs H1=>xs.length<=sizeLine/\∀ p,H1 p=none->Q (.ref p) (upd H1 p (.lst xs))
theorem Ye5 {x1} (h:PA X es t):PE X (.Tuple es x1 pos) (tTup t):=by
 intro pins s σ H Q I hq
 refine wpAny_Tuple_spliced (thn (h pos pins s σ H _ I hq) fun us s1 ⟨xs,H1,I1,r,z,q⟩=>⟨by rw[<- r.length]; exact z,?_⟩)
 have hf:H1 s1.heap.objs.size=none:=I1.hok.fresh (Xd _)
 refine⟨.ref s1.heap.objs.size,upd H1 s1.heap.objs.size (.tup xs),I1.laid (t':=s1.toks) (fun b u e=>Xa _ e) (Xd _) ?_,rfl,q _ hf⟩
 exact⟨z,us,r,⟨_,Xf _ rfl,rfl,⟨_,rfl⟩,rfl⟩⟩
theorem Ycq (h:PA X es t):PE X (.List es pos) (tLst t):=by
 intro pins s σ H Q I hq
 refine wpAny_List_spliced (thn (h pos pins s σ H _ I hq) fun us s1 ⟨xs,H1,I1,r,z,q⟩=>⟨by rw[<- r.length]; exact z,?_⟩)
 have hf:H1 s1.heap.objs.size=none:=I1.hok.fresh (Xd _)
 refine⟨.ref s1.heap.objs.size,upd H1 s1.heap.objs.size (.lst xs),I1.laid (t':=s1.toks) (fun b u e=>Xa _ e) (Xd _) ?_,rfl,q _ hf⟩
 exact⟨z,us,0,r,Xf _ rfl⟩
end
nonrec abbrev Sp:=List V->Hp->VK->XK->Prop
nonrec abbrev CXT:=List Env->Hp->Vd->XK->Vb->Vd->Prop
structure Env0 (P:Vi) (w:Vu) (K:Xb) (mg:Str->Option Vb) (base:Uaa) (A:Vt) (outer:List Env) (s:Vd) (H:Hp):Prop where
 frames:A.frames=some outer
 mod:Mod K mg base
 bs:∀ b o,base.get? b=some o->s.heap.get? b=some o/\H b=none
 bsz:base.objs.size<=s.heap.objs.size
 funs:s.heap.FunFrames base outer
 frf:∀ b∈frs outer,H b=none
 hok:HOk P w H s.heap
 bare:Uch s.gens
def CE (outer:List Env) (P:Vi) (w:Vu) (H:Hp) (s:Vd) (Q:VK) (u:Vb) (s':Vd):Prop :=
 ∃ v H',s'.os=s.os/\Uch s'.gens/\Un (frs outer) [] H H' s.heap s'.heap/\HOk P w H' s'.heap/\Zcg v u/\Q v H'
def CR (CX:CXT) (outer:List Env) (P:Vi) (w:Vu) (H:Hp) (s:Vd) (Q:VK) (E:XK) (r:Result) (s':Vd):Prop :=
 match r with
 | .ok (.ret u)=>CE outer P w H s Q u s'
 | .ok _=>False
 | .error e=>CX outer H s E e s'
structure FnOk (P:Vi) (w:Vu) (K:Xb) (mg:Str->Option Vb) (base:Uaa) (CX:CXT) (k:Nat) (f:Ve) (fd:Uaq) (ps:List Str) (sp:Sp):Prop where
 len:∀ vs H Q E,sp vs H Q E->vs.length=ps.length
 run:∀ (A:Vt) (outer:List Env) (s:Vd) (H:Hp) (args:Args) (us:List Vb) (vs:List V) (Q:VK) (E:XK),Room k A->Env0 P w K mg base A outer s H->BindsTo s fd args (ps.zip us)->Zb7 vs us->sp vs H Q E ->
  Ucl (Vm P w) A (.call (.ref f) args) (CR CX outer P w H s Q E) s
section
variable {X:Cx} {pins:List (Ve×Obj)} {σ:St} {H:Hp} {s s':Vd}
theorem Inv.env0 (I:Inv X pins σ H s):Env0 X.prog X.w X.K X.mg X.base X.A X.stack s H :=
 ⟨I.ok.frames,I.ok.mod,I.bs,Wag I.ok.bsz I.sz,I.stack,I.stkFree,I.hok,I.bare⟩
theorem Inv.after {Q:VK} {u:Vb} (I:Inv X pins σ H s) (h:CE X.stack X.prog X.w H s Q u s'):EP X pins σ Q u s':=by
 obtain⟨v,H',os,bare,un,hok,r,q⟩:=h
 obtain⟨hh,g,d,t,os'⟩:=s'
 obtain rfl:os'=s.os:=os
 exact⟨v,H',I.call (h':=hh) (g':=g) (d':=d) (t':=t) (ch:=[]) un hok bare (fun b z=>absurd z (by simp)),r,q⟩
end
nonrec def Ye2 (sp:Sp) (dvs:List V) (E:XK) (t:TA):TE:=fun σ H Q=>t σ H fun vs H1=>sp (vs++dvs) H1 Q E
def Zoi (K:Xb) (fd:Uaq) (ps:List Str) (ds:List Vb):Prop :=
 ∀ (s:Vd) (us:List Vb),K.In s.heap->(us++ds).length=ps.length->BindsTo s fd ⟨us,[]⟩ (ps.zip (us++ds))
theorem Zoi.all {K:Xb} {fd:Uaq} {ps:List Str} (h:∀ us:List Vb,us.length=ps.length->Ucs fd ⟨us,[]⟩=pure (ps.zip us)):Zoi K fd ps []:=fun s us _ hl=>by
 rw[Wab] at hl ⊢
 exact .of_eq (h us hl)
def Ztu (CX:CXT) (X:Cx) (E:XK):Prop:=∀ (pins:List (Ve×Obj)) (σ:St) (H:Hp) (s:Vd) (e:Vb) (s':Vd),Inv X pins σ H s->CX X.stack H s E e s'->X.xe e s'
section
variable {X:Cx} {CX:CXT} {k:Nat} {f C:Ve} {fd:Uaq} {ps:List Str} {sp:Sp} {dvs:List V} {ds:List Vb} {E:XK} {x m:Str} {p pos apos:Pos} {e o:Vw} {es:List Vw} {ta:TE} {t:TA}
theorem Zyp {pins:List (Ve×Obj)} {σ:St} {H:Hp} {s:Vd} {Q:VK} {us:List Vb} {vs:List V} (F:FnOk X.prog X.w X.K X.mg X.base CX k f fd ps sp) (hr:Room k X.A) (hb:Zoi X.K fd ps ds) (hd:Zb7 dvs ds) (hx:Ztu CX X E)
  (I:Inv X pins σ H s) (r:Zb7 vs us) (h:sp (vs++dvs) H Q E):Vf (Vm X.prog X.w) X.A (call (.ref f) us) (EP X pins σ Q) X.xe s:=by
 have r2:Zb7 (vs++dvs) (us++ds):=r.append hd
 have hl:(us++ds).length=ps.length:=by rw[<- r2.length]; exact F.len _ _ _ _ h
 refine wpAny_call (Ubq (F.run X.A X.stack s H ⟨us,[]⟩ (us++ds) (vs++dvs) Q E hr I.env0 (hb s us I.kIn hl) r2 h) fun r s' hq=>?_)
 cases r with
 | error e=>exact hx pins σ H s e s' I hq
 | ok fl =>
  cases fl with
  | ret u=>exact I.after hq
  | next=>exact Uj hq
  | brk=>exact Uj hq
  | cont=>exact Uj hq
theorem Ybh (F:FnOk X.prog X.w X.K X.mg X.base CX k f fd ps sp) (hr:Room k X.A) (hg:Gl X x) (hm:X.mg x=some (.ref f)) (hk:Wcg X.K (.ref f)=true) (hb:Zoi X.K fd ps ds) (hd:Zb7 dvs ds) (hx:Ztu CX X E)
  (ha:PA X (e::es) t) (hdb:(x==("__debug__" : Str))=false:=by decide) (he:Vg (e::es) X.env=(false,eval e X.env)::Vg es X.env:=by rfl) (hpl:(Uam pos (Vg es X.env)).any (·.1)=false:=by rfl) :
  PE X (.Call (.Name x p) (e::es) [] pos) (Ye2 sp dvs E t):=by
 intro pins s σ H Q I h
 refine Uap (Ztb I hg hm ?_ hdb)
 refine Wfa (h₀:=X.base) I.ok.mod.kin hk (thn (ha pos pins s σ H _ I h) fun us s1 ⟨vs,H1,I1,r,q⟩=>⟨I1.kIn,?_⟩) he hpl
 exact Zyp F hr hb hd hx I1 r q
end
structure FnScope (N P:List Str) (sc:Ubj):Prop where
 kind:sc.kind=.function
 co:sc.isCoroutine=false
 gen:sc.isGenerator=false
 nd:N.Nodup
 pre:N.take P.length=P
 par:∀ x∈P,sc.names.lookup x=some .local\/sc.names.lookup x=some .cell
 nofree:∀ y∈sc.names,y.2≠.free
theorem Zm9 {kindOf:Str->Option Uaw} {x:Str}:∀ {binds:List (Str×Vb)} {m:Str->Option Vb},(∀ v,(x,v)∉binds)->bindL kindOf binds m x=m x
 | [],_,_=>rfl
 | (n,v)::r,m,h=>by
  unfold bindL
  rw[Zm9 fun w hw=>h w (Wao _ hw)]
  split
  ·have:x≠n:=by rintro rfl; exact h v Wcj
   simp[this]
  ·rfl
theorem Zm7 {kindOf:Str->Option Uaw} {x:Str}:∀ {binds:List (Str×Vb)} {m:Str->Option Vb},(∀ v,(x,v)∉binds)->bindC kindOf binds m x=m x
 | [],_,_=>rfl
 | (n,v)::r,m,h=>by
  unfold bindC
  rw[Zm7 fun w hw=>h w (Wao _ hw)]
  split
  ·rfl
  ·have:x≠n:=by rintro rfl; exact h v Wcj
   simp[this]
theorem Zoa {kindOf:Str->Option Uaw} {x:Str} {v:Vb}:∀ {P:List Str} {vs:List Vb} {i:Nat} {m:Str->Option Vb},P.Nodup->P[i]? = some x->vs[i]? = some v->kindOf x=some .local ->
  bindL kindOf (P.zip vs) m x=some v
 | [],_,_,_,_,h,_,_=>by simp at h
 | _::_,[],_,_,_,_,h,_=>by simp at h
 | p::P,w::vs,0,m,nd,h1,h2,hk=>by
  simp at h1 h2; subst h1; subst h2
  show bindL kindOf ((p,w)::P.zip vs) m p=_
  unfold bindL
  rw[Zm9 fun v hv=>(Wav.mp nd).1 (Wcy hv).1,if_pos hk]
  simp
 | p::P,w::vs,i+1,m,nd,h1,h2,hk=>by
  show bindL kindOf ((p,w)::P.zip vs) m x=_
  unfold bindL
  exact Zoa (i:=i) (Wav.mp nd).2 (by simpa using h1) (by simpa using h2) hk
theorem Zmx {kindOf:Str->Option Uaw} {x:Str} {v:Vb}:∀ {P:List Str} {vs:List Vb} {i:Nat} {m:Str->Option Vb},P.Nodup->P[i]? = some x->vs[i]? = some v->kindOf x≠some .local ->
  bindC kindOf (P.zip vs) m x=some v
 | [],_,_,_,_,h,_,_=>by simp at h
 | _::_,[],_,_,_,_,h,_=>by simp at h
 | p::P,w::vs,0,m,nd,h1,h2,hk=>by
  simp at h1 h2; subst h1; subst h2
  show bindC kindOf ((p,w)::P.zip vs) m p=_
  unfold bindC
  rw[Zm7 fun v hv=>(Wav.mp nd).1 (Wcy hv).1,if_neg hk]
  simp
 | p::P,w::vs,i+1,m,nd,h1,h2,hk=>by
  show bindC kindOf ((p,w)::P.zip vs) m x=_
  unfold bindC
  exact Zmx (i:=i) (Wav.mp nd).2 (by simpa using h1) (by simpa using h2) hk
nonrec def start (N:List Str) (vs:List V):St:=vs.map some++Xv (N.length - vs.length) none
nonrec def Zmk (CX:CXT) (P:Vi) (w:Vu) (K:Xb) (mg:Str->Option Vb) (base:Uaa) (N:List Str) (qual:Str) (scope:Ubj) (f:Ve) (cd:Vb) (A:Vt) (outer:List Env) (s:Vd) (H:Hp) (E:XK):Cx where
 prog:=P
 w:=w
 K:=K
 mg:=mg
 base:=base
 A:=A.deeper (Uba qual scope s.heap.objs.size f cd)
 N:=N
 s₀:=s
 H₀:=H
 env:=Uba qual scope s.heap.objs.size f cd
 outer:=outer
 stack:=Uba qual scope s.heap.objs.size f cd::outer
 ex:=[]
 calm:=true
 fn:=fun _=>true
 pn:=[]
 xe:=fun e s'=>Vf (Vm P w) (A.deeper (Uba qual scope s.heap.objs.size f cd)) (leaving (Uba qual scope s.heap.objs.size f cd) e) (fun _ s''=>CX outer H s E e s'') (fun e' s''=>CX outer H s E e' s'') s'
theorem Zij {sc:Ubj} {n:Nat} {x:Str} (h:sc.names.lookup x=some .cell):∃ c,(Udy n sc.names []).lookup x=some c:=by
 have q:=Wdc sc.names n [] (.inl h)
 exact Wan.mp q
theorem Zn7 {CX:CXT} {P:Vi} {w:Vu} {K:Xb} {mg:Str->Option Vb} {base:Uaa} {N ps:List Str} {qual:Str} {scope:Ubj} {f:Ve} {cd:Vb} {A:Vt} {outer:List Env} {s s1:Vd} {H:Hp} {E:XK} {us:List Vb} {vs:List V}
  (S:FnScope N ps scope) (hd:A.handled=none) (e0:Env0 P w K mg base A outer s H) (hl:vs.length=ps.length) (r:Zb7 vs us)
  (x:InCallC s s.heap.objs.size (bindL (Uba qual scope s.heap.objs.size f cd).kindOf (ps.zip us) fun _=>none) (Udy (s.heap.objs.size+1) scope.names []) (bindC (Uba qual scope s.heap.objs.size f cd).kindOf (ps.zip us) fun _=>none) s1) :
  Inv (Zmk CX P w K mg base N qual scope f cd A outer s H E) [] (start N vs) H s1:=by
 have hpl:ps.length<=N.length:=by have:=congrArg Wbo S.pre; rw[Wat] at this; omega
 obtain⟨h1,tk,rfl,hk⟩:=x.done
 have noA:∀ b:Ve,b∉(Zmk CX P w K mg base N qual scope f cd A outer s H E).ex:=fun b z=>absurd (show b∈([]:List Ve) from z) (by simp)
 refine⟨⟨e0.mod,S.kind,rfl,rfl,Xd _,fun y z c h1 h2=>?_,fun y hy=>?_,fun y c _ h=>?_,fun _=>hd,Tby e0.frames,.inr ⟨rfl,rfl⟩,fun b z=>absurd z (noA b),e0.bs,e0.bsz,fun b _ _=>noA b,fun b z=>absurd z (noA b),e0.funs,e0.frf⟩,
  rfl,e0.bare,Un.kept hk,⟨_,x.toInCall.ns,fun i y v h1 h2 h3=>?_⟩,fun y c h=>⟨_,x.cell y c h⟩,e0.hok.fresh (Xd _),fun y c h=>?_,fun p hp=>absurd (show p∈([]:List (Ve×Obj)) from hp) (by simp),e0.hok.kept hk,?_⟩
 ·exact name_of_addr x.apart (Uh h1) (Uh h2)
 ·have hy:scope.names.lookup y=some .cell\/scope.names.lookup y=some .free:=hy
  rcases hy with hy | hy
  ·exact Zij hy
  ·exact absurd rfl (S.nofree _ (Uh hy))
 ·exact Wds (x.above y c (Uh h))
 ·have hi:i<vs.length:=by
   unfold start at h2
   by_cases hi:i<vs.length
   ·exact hi
   ·rw[Xu (by simpa using hi)] at h2
    rw[Wbr] at h2
    split at h2<;>cases h2
  have ha:vs[i]? = some v:=by
   unfold start at h2
   rw[Xh (by simpa using hi),Xr] at h2
   cases e:vs[i]? with
   | none=>rw[e] at h2; cases h2
   | some a=>rw[e] at h2; cases h2; rfl
  obtain⟨u,hu,rv⟩:=r.get ha
  have hp:ps[i]? = some y:=by
   rw[<- S.pre,Wbh (by omega)]; exact h1
  have ndP:ps.Nodup:=by rw[<- S.pre]; exact S.nd.sublist (Wff _ _)
  refine⟨u,rv,?_⟩
  rcases S.par y (Xz hp) with k | k
  ·exact .inl ⟨k,Zoa ndP hp hu k⟩
  ·obtain⟨c,e⟩:=Zij (n:=s.heap.objs.size+1) k
   refine .inr ⟨.inl k,c,e,?_⟩
   have q:=x.cell y c e
   rw[Zmx ndP hp hu (by show scope.names.lookup y≠_; rw[k]; decide)] at q
   exact q
 ·exact .inl (e0.hok.fresh (Wds (x.above y c (Uh h))))
 ·unfold start
  show _=N.length
  rw[Xq,Xo,Wej]
  omega
theorem fn_of {CX:CXT} {P:Vi} {w:Vu} {K:Xb} {mg:Str->Option Vb} {base:Uaa} {k:Nat} {f:Ve} {name qual:Str} {params:Udz} {body:List Uab} {scope:Ubj} {dV kV doc pm cdv ct oc:Vb} {an od:Option Ve}
  {osl:Array (Option Vb)} {N ps:List Str} {sp:Sp} (lk:K.lookup f=some ⟨oc,od,.func (Wbi name qual params body scope dV kV doc pm an cdv ct),osl⟩) (hcd:Wcs K cdv qual=true) (S:FnScope N ps scope)
  (len:∀ vs H Q E,sp vs H Q E->vs.length=ps.length)
  (hbody:∀ (A:Vt) (outer:List Env) (s:Vd) (H:Hp) (vs:List V) (Q:VK) (E:XK),Room k (A.deeper (Uba qual scope s.heap.objs.size f cdv))->sp vs H Q E ->
   ∃ t,PSs (Zmk CX P w K mg base N qual scope f cdv A outer s H E) body t/\t { nx:=fun _ H'=>Q .non H',rt:=Q } (start N vs) H) :
  FnOk P w K mg base CX (k+1) f (Wbi name qual params body scope dV kV doc pm an cdv ct) ps sp:=by
 refine⟨len,fun A outer s H args us vs Q E hr e0 hb r hsp=>?_⟩
 have hl:=len _ _ _ _ hsp
 have KX:K.In s.heap:=e0.mod.kin.keeps fun b o e=>(e0.bs b o e).1
 have lim:s.heap.NoLimit:=e0.mod.nolimit.keeps fun b o e=>(e0.bs b o e).1
 have hkind:∀ y∈ps.zip us,scope.names.lookup y.1=some .local\/(scope.names.lookup y.1=some .cell/\((Udy (s.heap.objs.size+1) scope.names []).lookup y.1).isSome=true):=fun⟨n,v⟩ hy=>by
  rcases S.par n (Wcy hy).1 with q | q
  ·exact .inl q
  ·exact .inr ⟨q,Wdc _ _ _ (.inl q)⟩
 refine Ucm hr.depth (KX _ _ lk) rfl S.co S.gen rfl (Wfb KX hcd) (hb _ _ _ _ ?_)
 refine Ubo S.kind hkind fun env he s1 x=>?_
 subst he
 refine⟨lim.keeps x.toInCall.keep,codeAny_func ?_⟩
 obtain⟨t,ht,hq⟩:=hbody A outer s H vs Q E (hr.deeper _) hsp
 have I:Inv (Zmk CX P w K mg base N qual scope f cdv A outer s H E) [] (start N vs) H s1:=Zn7 S hr.hd e0 hl r x
 refine Uan (ht [] s1 (start N vs) H _ I hq) (fun fl s' hs=>?_) fun e s' hs=>hs
 have fin:∀ {σ':St} {H':Hp} {v:V} {u:Vb},Inv (Zmk CX P w K mg base N qual scope f cdv A outer s H E) [] σ' H' s'->Zcg v u->Q v H'->CE outer P w H s Q u s' :=
  fun {σ' H' v u} J rv q=>⟨v,H',J.os,J.bare,J.base,J.hok,rv,q⟩
 cases fl with
 | ret u =>
  obtain⟨v,σ',H',J,rv,q⟩:=hs
  exact fin J rv q
 | next =>
  obtain⟨σ',H',J,q⟩:=hs
  exact fin (v:=V.non) (u:=Ur) J rfl q
 | brk =>
  obtain⟨_,_,_,q⟩:=hs
  exact Uj q
 | cont =>
  obtain⟨_,_,_,q⟩:=hs
  exact Uj q
section
variable {X:Cx} {x:Str} {p pos:Pos} {e:Vw} {es:List Vw} {t:TA} {id T:String} {r:List V->Hp->VK->Prop}
nonrec def tCB (r:List V->Hp->VK->Prop) (t:TA):TE:=fun σ H Q=>t σ H fun vs H1=>r vs H1 Q
theorem Zwy (hc:Zj8 X (.builtin id) r) (hg:Gl X x) (hm:X.mg x=none) (hv:Vp x=some (.builtin id)) (ha:PA X (e::es) t) (hn:x ≠ "__name__" := by decide) (hdb:(x==("__debug__" : Str))=false:=by decide)
  (he:Vg (e::es) X.env=(false,eval e X.env)::Vg es X.env:=by rfl) (hpl:(Uam pos (Vg es X.env)).any (·.1)=false:=by rfl):PE X (.Call (.Name x p) (e::es) [] pos) (tCB r t):=by
 intro pins s σ H Q I h
 refine Uap (Ze5 I hg hm hv ?_ hn hdb)
 exact PyProof.Rows.callWith_builtin1 (thn (ha pos pins s σ H _ I h) fun us s1 ⟨vs,H1,I1,r1,q1⟩=>hc pins s1 σ H1 vs us Q I1 r1 q1) he hpl
theorem Zt5 (hc:Zj8 X (.type T) r) (hg:Gl X x) (hm:X.mg x=none) (hv:Vp x=some (.type T)) (ha:PA X (e::es) t) (hn:x ≠ "__name__" := by decide) (hdb:(x==("__debug__" : Str))=false:=by decide)
  (he:Vg (e::es) X.env=(false,eval e X.env)::Vg es X.env:=by rfl) (hpl:(Uam pos (Vg es X.env)).any (·.1)=false:=by rfl):PE X (.Call (.Name x p) (e::es) [] pos) (tCB r t):=by
 intro pins s σ H Q I h
 refine Uap (Ze5 I hg hm hv ?_ hn hdb)
 exact Ug (thn (ha pos pins s σ H _ I h) fun us s1 ⟨vs,H1,I1,r1,q1⟩=>hc pins s1 σ H1 vs us Q I1 r1 q1) he hpl
end
end L2
namespace HT
open PySem PyProof.Rows
section
variable {prog:Vi} {w:Vu} {A:Vt} {E:Vb->Vd->Prop} {s:Vd}
theorem cat_tup {t b:Ve} {vs ws:List Vb} {Q:Vb->Vd->Prop} (ht:Uee s.heap t vs.toArray) (hb:Uee s.heap b ws.toArray) (hv:vs≠[])
  (h1:ws=[]->Q (.ref t) s) (h2:ws≠[]->Q (.ref s.heap.objs.size) { s with heap:=s.heap.push { cls:=.type "tuple",data:=.seq (vs++ws).toArray } })
  (hsz:vs.length+ws.length<=sizeLine):Vf (Vm prog w) A (Vy .Add (.ref t) (.ref b)) Q E s:=by
 obtain⟨⟨cls,dd,data,sl⟩,ho,hc,n,hd⟩:=id ht
 obtain⟨⟨cls2,dd2,data2,sl2⟩,ho2,hc2,n2,hd2⟩:=id hb
 simp only at hc hd hc2 hd2
 subst hc hd hc2 hd2
 have e:vs.toArray++ws.toArray=(vs++ws).toArray:=by simp
 by_cases hw:ws=[]
 ·exact Udr ⟨_,ho,rfl⟩ ⟨_,ho2,rfl⟩ Uca Udj Taq Tao (Tak _ _)
   (tuple_addW1 t b vs.toArray ws.toArray n n2 dd dd2 sl sl2 (by simpa using hv) (by simp[hw])) ⟨ho,ho2,h1 hw⟩
 ·refine Udr ⟨_,ho,rfl⟩ ⟨_,ho2,rfl⟩ Uca Udj Taq Tao (Tak _ _)
   (tuple_addW2 t b vs.toArray ws.toArray n n2 dd dd2 sl sl2 (by simpa using hv) (by simpa using hw) (by rw[Xp,Xp]; exact hsz)) ⟨ho,ho2,?_⟩
  rw[e]
  exact h2 hw
nonrec def sIx (n d:Nat):Option Int->Nat
 | none=>d
 | some v=>if v<0 then (v+(n:Int)).toNat else min v.toNat n
theorem Ycl (n d:Nat) (hd:d<=n) (o:Option Int):sIx n d o<=n:=by
 cases o with
 | none=>exact hd
 | some v =>
  show (if v<0 then (v+(n:Int)).toNat else min v.toNat n)<=n
  by_cases hv:v<0
  ·rw[if_pos hv]; omega
  ·rw[if_neg hv]; exact Nat.min_le_right _ _
theorem Zud (v:Int) (n d:Nat):(if v<0 then max (v+(n:Int)) 0 else min v (n:Int))=((sIx n d (some v):Nat):Int):=by
 show (if v<0 then max (v+(n:Int)) 0 else min v (n:Int))=(((if v<0 then (v+(n:Int)).toNat else min v.toNat n):Nat):Int)
 by_cases hv:v<0
 ·simp only[if_pos hv]; omega
 ·simp only[if_neg hv]; omega
theorem Zrr (lo hi:Option Int) (n:Nat):Tai lo hi 1 (n:Int)=(((sIx n 0 lo:Nat):Int),((sIx n n hi:Nat):Int)):=by
 have h1:¬ ((1:Int)<0):=by omega
 unfold Tai
 simp only[h1,if_false]
 refine Prod.ext ?_ ?_
 ·cases lo with
  | none=>rfl
  | some v=>exact Zud v n 0
 ·cases hi with
  | none=>rfl
  | some v=>exact Zud v n n
theorem Zsj (i j:Nat):Uv (i:Int) (j:Int) 1=j - i:=by
 unfold Uv
 have h1:(1:Int) > 0:=by omega
 simp only[h1,if_true,Int.ediv_one]
 split<;>omega
theorem Zk1 {v:Vb} {o:Option Int} {Q:Option Int->Vd->Prop} (p:Udk v o) (h:Q o s):Vf (Vm prog w) A (Builtin.Slice.slicePartIndex v) Q E s:=by
 cases p with
 | none=>exact slicePart_none h
 | int i t=>exact slicePart_int h
theorem sliceApplied_gen {sl:Ve} {vl vu:Vb} {lo hi:Option Int} {n:Nat} {Q:Int×Int×Nat->Vd->Prop} (hs:s.heap.IsSliceOf sl vl vu .none) (pl:Udk vl lo) (pu:Udk vu hi)
  (h:Q (((sIx n 0 lo:Nat):Int),1,sIx n n hi - sIx n 0 lo) s):Vf (Vm prog w) A (Tbf (.ref sl) (pure (n:Int))) Q E s:=by
 obtain⟨os,hos,hcs,hds⟩:=id hs
 unfold Tbf Builtin.Slice.sliceFields
 refine Va (Va (Vn hos hds (x:=vl) rfl (Va (Vn hos hds (x:=vu) rfl (Va (Vn hos hds (x:=.none) rfl (Vc ?_)))))))
 refine Va (slicePart_none ?_)
 show Vf _ _ (if ((1:Int)==0)=true then _ else _) _ _ s
 rw[if_neg (by decide)]
 refine Va (Zk1 pl (Va (Zk1 pu (Va (Vc ?_)))))
 show Vf _ _ (match Tai lo hi 1 (n:Int) with | (lo,hi)=>pure (lo,(1:Int),Uv lo hi 1)) _ _ s
 rw[Zrr lo hi n]
 show Vf _ _ (pure (((sIx n 0 lo:Nat):Int),(1:Int),Uv ((sIx n 0 lo:Nat):Int) ((sIx n n hi:Nat):Int) 1)) _ _ s
 rw[Zsj]
 exact Vc h
theorem Zxa (xs:Array Vb) (i k:Nat):((Wcv k).filterMap fun(m:Nat)=>xs[((i:Int)+(m:Int)*1).toNat]?).toArray=((xs.toList.drop i).take k).toArray:=by
 have e:(fun(m:Nat)=>xs[((i:Int)+(m:Int)*1).toNat]?)=fun m=>xs[i+m]? := by
  funext m
  have:((i:Int)+(m:Int)*1).toNat=i+m:=by omega
  rw[this]
 rw[e]
 have:=pick_run xs i k
 rw[List.filterMap_map] at this
 have e2:((fun x=>xs[x]?) ∘ fun x=>i+x)=fun m=>xs[i+m]? := rfl
 rw[e2] at this
 rw[this]
theorem getItem_tuple_cut {t sl:Ve} {items:Array Vb} {vl vu:Vb} {lo hi:Option Int} {Q:Vb->Vd->Prop} (ht:Uee s.heap t items) (hs:s.heap.IsSliceOf sl vl vu .none) (pl:Udk vl lo) (pu:Udk vu hi)
  (hw:¬ (sIx items.size 0 lo=0/\sIx items.size items.size hi=items.size))
  (h:Q (.ref s.heap.objs.size) { s with heap:=s.heap.push { cls:=.type "tuple",data:=.seq ((items.toList.drop (sIx items.size 0 lo)).take (sIx items.size items.size hi - sIx items.size 0 lo)).toArray } })
  (hsz:items.size<=sizeLine):Vf (Vm prog w) A (Udf (.ref t) (.ref sl)) Q E s:=by
 have htake:sizeOk (.seq ((items.toList.drop (sIx items.size 0 lo)).take (sIx items.size items.size hi - sIx items.size 0 lo)).toArray):=by
  show ((items.toList.drop (sIx items.size 0 lo)).take (sIx items.size items.size hi - sIx items.size 0 lo)).toArray.size<=sizeLine
  rw[Xp,Wat,Wdj,Wdo]
  omega
 have hj:sIx items.size items.size hi<=items.size:=Ycl _ _ (Xd _) hi
 obtain⟨os,hos,hcs,hds⟩:=id hs
 have hTs:s.TypeIs (.ref sl) "slice" := ⟨os,hos,hcs⟩
 unfold Udf
 try with_reducible refine Uae ?_
 first | refine Va (Vc ?_) | skip
 refine Va (wpAny_sequenceKey ht.typeIs (by decide) ?_)
 refine Va (Vh (name:=Ua "__getitem__") ht.typeIs Uf
  (Vo Uf ht.typeIs entry_tuple_getitem ?_ (args_tuple_getitem _ _)))
 show Vf _ _ (Tbg (.ref t) >>= _) _ _ s
 refine Va (tupleItemsOf_ ht ?_)
 refine Va (Ucn hTs ?_)
 rw[if_pos (by decide)]
 refine Va (sliceApplied_gen hs pl pu ?_)
 have hno:¬ ((((sIx items.size 0 lo:Nat):Int)==0&&(1:Int)==1&&(sIx items.size items.size hi - sIx items.size 0 lo)==items.size)=true):=by
  intro q
  rw[Wah,Wah] at q
  have q1:((sIx items.size 0 lo:Nat):Int)=0:=eq_of_beq q.1.1
  have q2:sIx items.size items.size hi - sIx items.size 0 lo=items.size:=eq_of_beq q.2
  exact hw ⟨by omega,by omega⟩
 show Vf _ _ (if (((sIx items.size 0 lo:Nat):Int)==0&&(1:Int)==1&&(sIx items.size items.size hi - sIx items.size 0 lo)==items.size)=true then _ else _) _ _ s
 rw[if_neg hno,Zxa]
 first
  | exact Va (m:=Uy _) (Vs (Vc ⟨_,rfl,Vc h⟩) htake)
  | exact Va (m:=Uy _) (Vs (Va (Vc (Vc ⟨_,rfl,Vc h⟩))) htake)
  | exact Va (Va (m:=Uy _) (Vs (Vc (Vc ⟨_,rfl,Vc h⟩)) htake))
  | exact Va (Va (m:=Uy _) (Vs (Vc ⟨_,rfl,Vc h⟩) htake))
end
end HT
namespace L2
open PySem PySem.Spec PyProof.Rows
nonrec abbrev TO:=St->Hp->(Option Int->Hp->Prop)->Prop
def PO (X:Cx) (e:Option Vw) (t:TO):Prop :=
 ∀ (pins:List (Ve×Obj)) (s:Vd) (σ:St) (H:Hp) (Q:Option Int->Hp->Prop),Inv X pins σ H s->t σ H Q ->
  Vf (Vm X.prog X.w) X.A (evalPart e X.env) (fun u s'=>∃ o H',Inv X pins σ H' s'/\Udk u o/\Q o H') X.xe s
nonrec def Zz1:TO:=fun _ H Q=>Q none H
nonrec def tPart (t:TE):TO:=fun σ H Q=>t σ H fun x H1=>∃ i,x=.int i/\Q (some i) H1
theorem Zk0 {ns:List Int}:∀ {us:List Vb},Zb7 (ns.map V.int) us->Uax us ns:=by
 induction ns with
 | nil=>intro us r; rw[Wdt] at r; cases r; exact .nil
 | cons n ns ih =>
  intro us r
  rw[Xl] at r
  cases r with
  | cons r1 r2 =>
   obtain⟨t,e⟩:=r1
   subst e
   exact .cons n t (ih r2)
section
variable {X:Cx} {e:Vw} {te:TE} {lo hi:Option Vw} {tl th:TO} {pos p2:Pos}
theorem Yam:PO X none Zz1:=by
 intro pins s σ H Q I h
 rw[evalPart_none]
 exact Vc ⟨none,H,I,.none,h⟩
theorem Ybk (h:PE X e te):PO X (some e) (tPart te):=by
 intro pins s σ H Q I hw
 rw[evalPart_some]
 refine thn (h pins s σ H _ I hw) fun u s1 zz=>?_
 obtain⟨x,H1,I1,r1,q1⟩:=zz
 obtain⟨i,rfl,q⟩:=q1
 obtain⟨t,rfl⟩:=r1
 exact⟨some i,H1,I1,.int i t,q⟩
def SlR (X:Cx) (r:V->Option Int->Option Int->Hp->VK->Prop):Prop :=
 ∀ (pins:List (Ve×Obj)) (s:Vd) (σ:St) (H:Hp) (x:V) (v vl vu:Vb) (lo hi:Option Int) (sl:Ve) (Q:VK),Inv X pins σ H s->Zcg x v->s.heap.IsSliceOf sl vl vu .none->Udk vl lo->Udk vu hi->r x lo hi H Q ->
  ∃ T id,typeLookup (.type T) "__getitem__" = pure (some (.builtin id))/\s.TypeIs v T/\Vf (Vm X.prog X.w) X.A (Udf v (.ref sl)) (EP X pins σ Q) X.xe s
nonrec def tSl (r:V->Option Int->Option Int->Hp->VK->Prop) (te:TE) (tl th:TO):TE:=fun σ H Q=>te σ H fun x H1=>tl σ H1 fun l H2=>th σ H2 fun u H3=>r x l u H3 Q
theorem Zwr {r:V->Option Int->Option Int->Hp->VK->Prop} (hr:SlR X r) (he:PE X e te) (hl:PO X lo tl) (hu:PO X hi th):PE X (.Subscript e (.Slice lo hi none p2) pos) (tSl r te tl th):=by
 intro pins s σ H Q I h
 refine Subscript_ (thn (he pins s σ H _ I h) fun v s1 zz=>?_)
 obtain⟨x,H1,I1,r1,q1⟩:=zz
 refine wpAny_Slice (thn (hl pins s1 σ H1 _ I1 q1) fun vl s2 ⟨l,H2,I2,pl,q2⟩=>thn (hu pins s2 σ H2 _ I2 q2) fun vu s3 zz=>?_)
 obtain⟨u,H3,I3,pu,q3⟩:=zz
 rw[evalPart_none]
 refine Vc ?_
 have I4:Inv X pins σ H3 { s3 with heap:=s3.heap.push { cls:=.type "slice",data:=.fields #[vl,vu,.none] } }:=I3.kept (t':=s3.toks) fun b ob q=>Xa _ q
 obtain⟨T,id,hT,ht,hg⟩:=hr pins { s3 with heap:=s3.heap.push { cls:=.type "slice",data:=.fields #[vl,vu,.none] } } σ H3 x v vl vu l u s3.heap.objs.size Q I4 r1 (Heap.IsSliceOf.new ..) pl pu q3
 show Vf (Vm X.prog X.w) X.A (subscriptTail e (.Slice lo hi none p2) v (.ref s3.heap.objs.size)) (EP X pins σ Q) X.xe { s3 with heap:=s3.heap.push { cls:=.type "slice",data:=.fields #[vl,vu,.none] } }
 exact tail_any (ops:=[.ref s3.heap.objs.size,v]) ht hT hg (by with_unfolding_all rfl)
nonrec def Zzp (xs:List V) (lo hi:Option Int):List V:=(xs.drop (HT.sIx xs.length 0 lo)).take (HT.sIx xs.length xs.length hi - HT.sIx xs.length 0 lo)
theorem Ze1 (xs:List V) (lo hi:Option Int):(Zzp xs lo hi).length<=xs.length:=by
 unfold Zzp
 rw[Wat,Wdj]
 omega
nonrec def rSlT (K:Xb):V->Option Int->Option Int->Hp->VK->Prop:=fun x lo hi H Q=>∃ a xs,x=.ref a/\SqT K H a xs /\
 ¬ (HT.sIx xs.length 0 lo=0/\HT.sIx xs.length xs.length hi=xs.length)/\∀ p,H p=none->Q (.ref p) (upd H p (.tup (Zzp xs lo hi)))
theorem Yex:SlR X (rSlT X.K):=by
 intro pins s σ H x v vl vu lo hi sl Q I rx hs pl pu h
 obtain⟨a,xs,rfl,hx,hw,q⟩:=h
 cases rx
 obtain⟨its,r,ht,hz⟩:=I.tuple hx
 have hlen:its.toArray.size=xs.length:=by rw[Xp]; exact r.length.symm
 refine⟨"tuple",_,Uf.lookup,ht.typeIs,?_⟩
 refine HT.getItem_tuple_cut ht hs pl pu (by rw[hlen]; exact hw) ?_ (by rw[hlen]; exact hz)
 rw[hlen]
 refine⟨.ref s.heap.objs.size,_,I.laid (t':=s.toks) (o:=.tup (Zzp xs lo hi)) (fun b ob q=>Xa _ q) (Xd _) ?_,rfl,q _ (I.hok.fresh (Xd _))⟩
 exact⟨Wag (Ze1 xs lo hi) hz,_,(r.drop (HT.sIx xs.length 0 lo)).take (HT.sIx xs.length xs.length hi - HT.sIx xs.length 0 lo),Zmc.new _ _⟩
nonrec def rCatT (K:Xb):R2:=fun x y H Q=>∃ a b xs ys,x=.ref a/\y=.ref b/\SqT K H a xs/\SqT K H b ys/\xs≠[]/\xs.length+ys.length<=sizeLine /\
 (ys=[]->Q (.ref a) H)/\(ys≠[]->∀ p,H p=none->Q (.ref p) (upd H p (.tup (xs++ys))))
theorem Zb7.nil_iff {xs:List V} {us:List Vb} (r:Zb7 xs us):us=[] ↔ xs=[]:=by
 cases r with
 | nil=>simp
 | cons _ _=>simp
theorem Zvv:OpR X (Vy .Add) (rCatT X.K):=by
 intro pins s σ H x y v u Q I rx ry h
 obtain⟨a,b,xs,ys,rfl,rfl,ha,hb,hx,hz,q1,q2⟩:=h
 cases rx
 cases ry
 obtain⟨its,r1,p1,_⟩:=I.tuple ha
 obtain⟨its2,r2,p2,_⟩:=I.tuple hb
 refine HT.cat_tup p1 p2 (fun z=>hx (r1.nil_iff.mp z)) (fun z=>⟨.ref a,H,I,rfl,q1 (r2.nil_iff.mp z)⟩) (fun z=>?_) (by rw[<- r1.length,<- r2.length]; exact hz)
 refine⟨.ref s.heap.objs.size,_,I.laid (t':=s.toks) (o:=.tup (xs++ys)) (fun b ob q=>Xa _ q) (Xd _) ?_,rfl,q2 (fun w=>z (r2.nil_iff.mpr w)) _ (I.hok.fresh (Xd _))⟩
 exact⟨by rw[Xq]; exact hz,_,r1.append r2,Zmc.new _ _⟩
end
nonrec def ixN (n:Nat) (i:Int):Option Nat:=if 0<=i then (if i<n then some i.toNat else none) else if -(n:Int)<=i then some (i+n).toNat else none
nonrec def atI {α:Type} (xs:List α) (i:Int):Option α:=(ixN xs.length i).bind fun j=>xs[j]?
theorem Yab {n:Nat} {i:Int} {j:Nat} (h:ixN n i=some j):seqIndex? i n=some j/\j<n /\ -(n:Int)<=i/\i<n:=by
 unfold ixN at h
 by_cases h0:0<=i
 ·rw[if_pos h0] at h
  by_cases h1:i<n
  ·rw[if_pos h1] at h
   have e:i.toNat=j:=Wac.inj h
   exact⟨by rw[seqIndex_of h0 h1,e],by omega,by omega,h1⟩
  ·rw[if_neg h1] at h; cases h
 ·rw[if_neg h0] at h
  by_cases h1 : -(n:Int)<=i
  ·rw[if_pos h1] at h
   have e:(i+n).toNat=j:=Wac.inj h
   exact⟨by rw[seqIndex_neg (by omega) h1,e],by omega,h1,by omega⟩
  ·rw[if_neg h1] at h; cases h
theorem Zvx {α:Type} {xs:List α} {i:Int} {v:α} (h:atI xs i=some v):∃ j,seqIndex? i xs.length=some j/\xs[j]? = some v/\j<xs.length /\ -(xs.length:Int)<=i/\i<xs.length:=by
 unfold atI at h
 cases e:ixN xs.length i with
 | none=>rw[e] at h; cases h
 | some j =>
  rw[e] at h
  obtain⟨h1,h2,h3,h4⟩:=Yab e
  exact⟨j,h1,h,h2,h3,h4⟩
theorem Zcj {α:Type} {xs:List α} {j:Nat} {v:α} (h:xs[j]? = some v):atI xs (j:Int)=some v:=by
 have hj:j<xs.length:=(Xc.mp h).1
 have e:ixN xs.length (j:Int)=some j:=by
  unfold ixN
  rw[if_pos (by omega),if_pos (by omega)]; simp
 unfold atI; rw[e]; exact h
theorem Zlj {α:Type} (xs:List α) (v:α):atI (xs++[v]) (-1)=some v:=by
 have hl:(xs++[v]).length=xs.length+1:=by simp
 have e:ixN (xs++[v]).length (-1)=some xs.length:=by
  unfold ixN
  rw[hl,if_neg (by decide),if_pos (by omega)]
  congr 1
  omega
 unfold atI
 rw[e]
 show (xs++[v])[xs.length]? = some v
 simp
def Zug (b:Vw):Prop:=∀ o i,subscripted b false o i=operate [o,i] (Udf o i)
def IxR (X:Cx) (r:R2):Prop :=
 ∀ (value slice:Vw) (pins:List (Ve×Obj)) (s:Vd) (σ:St) (H:Hp) (x y:V) (v u:Vb) (Q:VK),Inv X pins σ H s->Zcg x v->Zcg y u->r x y H Q ->
  subscripted slice false v u=operate [v,u] (Udf v u)->Vf (Vm X.prog X.w) X.A (subscriptTail value slice v u) (EP X pins σ Q) X.xe s
def MtR (X:Cx) (id:String) (r:V->List V->Hp->VK->Prop):Prop :=
 ∀ (pins:List (Ve×Obj)) (s:Vd) (σ:St) (H:Hp) (x:V) (xs:List V) (v:Vb) (us:List Vb) (Q:VK),Inv X pins σ H s->Zcg x v->Zb7 xs us->r x xs H Q ->
  Vf (Vm X.prog X.w) X.A (call (.builtin id) (v::us)) (EP X pins σ Q) X.xe s
section
variable {X:Cx} {a b:Vw} {ta tb:TE} {pos:Pos}
theorem pe_ix {r:R2} (hr:IxR X r) (ha:PE X a ta) (hb:PE X b tb) (hs:Zug b):PE X (.Subscript a b pos) (tOp r ta tb):=by
 intro pins s σ H Q I h
 exact Subscript_ (binT ha hb I h fun v u s2 x y H2 I2 rx ry q=>hr a b pins s2 σ H2 x y v u Q I2 rx ry q (hs _ _))
nonrec def rIxL (K:Xb):R2:=fun x y H Q=>∃ p xs i v,x=.ref p/\y=.int i/\SqL K H p xs/\atI xs i=some v/\Q v H
nonrec def rIxT (K:Xb):R2:=fun x y H Q=>∃ p xs i v,x=.ref p/\y=.int i/\SqT K H p xs/\atI xs i=some v/\Q v H
theorem Ybz:IxR X (rIxL X.K):=by
 intro value slice pins s σ H x y v u Q I rx ry h hs
 obtain⟨p,xs,i,z,rfl,rfl,hq,he,q⟩:=h
 cases rx
 obtain⟨t,rfl⟩:=ry
 obtain⟨its,r,pl,hz⟩:=I.list hq
 obtain⟨j,h1,h2,h3,h4,h5⟩:=Zvx he
 obtain⟨w,ew,rw'⟩:=r.get h2
 have hl:=r.length
 have hn:=Znw
 have fin:EP X pins σ Q w s:=⟨z,H,I,rw',q⟩
 by_cases h0:0<=i
 ·have hj:i.toNat=j:=by
   rw[seqIndex_of h0 h5] at h1
   exact Wac.inj h1
  exact item_listR pl.isList h0 (by omega) (by rw[hj]; simpa using ew) fin hs
 ·have hj:(i+(its.toArray.size:Int)).toNat=j:=by
   rw[seqIndex_neg (by omega) h4] at h1
   rw[Xp,<- hl]
   exact Wac.inj h1
  exact Ucd (x:=w) pl.isList.typeIs slot_list_getitem.lookup
   (wpAny_getItem_list_neg (Q:=fun r s'=>r=w/\EP X pins σ Q r s') pl.isList (by omega) (by rw[Xp]<;>omega) (by omega) (by rw[hj]; simpa using ew) ⟨rfl,fin⟩) hs
theorem Ycu:IxR X (rIxT X.K):=by
 intro value slice pins s σ H x y v u Q I rx ry h hs
 obtain⟨p,xs,i,z,rfl,rfl,hq,he,q⟩:=h
 cases rx
 obtain⟨t,rfl⟩:=ry
 obtain⟨its,r,pl,hz⟩:=I.tuple hq
 obtain⟨j,h1,h2,h3,h4,h5⟩:=Zvx he
 obtain⟨w,ew,rw'⟩:=r.get h2
 have hl:=r.length
 have hn:=Znw
 have fin:EP X pins σ Q w s:=⟨z,H,I,rw',q⟩
 exact Ucd (x:=w) pl.typeIs slot_tuple_getitem.lookup
  (getItem_tuple (j:=j) (Q:=fun r s'=>r=w/\EP X pins σ Q r s') pl (by omega) (by omega) (by rw[Xp,<- hl]; exact h1) (by simpa using ew) ⟨rfl,fin⟩) hs
theorem Zns (lo hi:Option Int) (n:Nat):(Ubc lo hi none n).1=((HT.sIx n 0 lo:Nat):Int)/\(Ubc lo hi none n).2.1=((HT.sIx n n hi:Nat):Int)/\(Ubc lo hi none n).2.2=1:=by
 refine⟨?_,?_,rfl⟩
 ·cases lo with
  | none=>simp[Ubc,HT.sIx]
  | some i =>
   simp only[Ubc,HT.sIx,Wfr,show (1:Int) > 0 by decide,if_true]
   by_cases h:i<0
   ·simp only[h,if_true]<;>omega
   ·simp only[h,if_false]<;>omega
 ·cases hi with
  | none=>simp[Ubc,HT.sIx]
  | some i =>
   simp only[Ubc,HT.sIx,Wfr,show (1:Int) > 0 by decide,if_true]
   by_cases h:i<0
   ·simp only[h,if_true]<;>omega
   ·simp only[h,if_false]<;>omega
theorem Zln (its:List Vb) (lo hi:Option Int):slicePick its.toArray lo hi none=((its.drop (HT.sIx its.length 0 lo)).take (HT.sIx its.length its.length hi - HT.sIx its.length 0 lo)).toArray:=by
 obtain⟨h1,h2,h3⟩:=Zns lo hi its.toArray.size
 unfold slicePick
 rw[h1,h2,h3]
 simp only[sliceRange_one,pick_run,Xp]<;>rfl
nonrec def rSlL (K:Xb):V->Option Int->Option Int->Hp->VK->Prop:=fun x lo hi H Q=>∃ a xs,x=.ref a/\SqL K H a xs/\∀ p,H p=none->Q (.ref p) (upd H p (.lst (Zzp xs lo hi)))
theorem Ya5:SlR X (rSlL X.K):=by
 intro pins s σ H x v vl vu lo hi sl Q I rx hs pl pu h
 obtain⟨a,xs,rfl,hx,q⟩:=h
 cases rx
 obtain⟨its,r,ht,hz⟩:=I.list hx
 have hlen:=r.length
 refine⟨"list",_,slot_list_getitem.lookup,ht.isList.typeIs,?_⟩
 refine wpAny_getItem_list_slice ht.isList hs pl pu .none (by simp) ?_ (by rw[Xp]<;>omega)
 rw[Zln,<- hlen]
 refine⟨.ref s.heap.objs.size,_,I.laid (t':=s.toks) (o:=.lst (Zzp xs lo hi)) (fun b ob q=>Xa _ q) (Xd _) ?_,rfl,q _ (I.hok.fresh (Xd _))⟩
 exact⟨Wag (Ze1 xs lo hi) hz,_,0,(r.drop (HT.sIx xs.length 0 lo)).take (HT.sIx xs.length xs.length hi - HT.sIx xs.length 0 lo),Xf _ rfl⟩
theorem Zm6:Zj8 X (.builtin "len") (fun xs H Q=>∃ p ys,xs=[.ref p]/\(SqL X.K H p ys\/SqT X.K H p ys)/\Q (.int ys.length) H):=by
 intro pins s σ H xs us Q I r h
 obtain⟨p,ys,rfl,hq,q⟩:=h
 obtain⟨u,rfl,rx⟩:=Zi5 r
 cases rx
 have hn:=Znw
 rcases hq with hq | hq
 ·obtain⟨its,r',pl,hz⟩:=I.list hq
  have hlen:=r'.length
  exact Calls.call_len_list pl.isList (by simp only[Xp]<;>omega) ⟨.int ys.length,H,I.tok _,⟨s.toks+1,by rw[Xp,hlen]⟩,q⟩
 ·obtain⟨its,r',pl,hz⟩:=I.tuple hq
  have hlen:=r'.length
  exact len_tuple pl (by simp only[Xp]<;>omega) ⟨.int ys.length,H,I.tok _,⟨s.toks+1,by rw[Xp,hlen]⟩,q⟩
theorem Znu:Zj8 X (.builtin "len") (fun xs H Q=>∃ z,xs=[.str z]/\z.length<=sizeLine/\Q (.int z.length) H):=by
 intro pins s σ H xs us Q I r h
 obtain⟨z,rfl,hz,q⟩:=h
 obtain⟨u,rfl,t,rfl⟩:=Zi5 r
 have hn:=Znw
 exact len_str (by omega) ⟨.int z.length,H,I.tok _,⟨_,rfl⟩,q⟩
theorem Zm4:Zj8 X (.type "list") (fun xs H Q=>∃ p ys,xs=[.ref p]/\(SqL X.K H p ys\/SqT X.K H p ys)/\∀ l,H l=none->Q (.ref l) (upd H l (.lst ys))):=by
 intro pins s σ H xs us Q I r h
 obtain⟨p,ys,rfl,hq,q⟩:=h
 obtain⟨u,rfl,rx⟩:=Zi5 r
 cases rx
 have fin:∀ (its:List Vb),Zb7 ys its->ys.length<=sizeLine->∀ (h':Uaa) (c':Nat),(∀ b o',s.heap.get? b=some o'->h'.get? b=some o') ->
   h'.get? s.heap.objs.size=some { cls:=.type "list",dict:=none,data:=.seq its.toArray c',slots := #[] }->EP X pins σ Q (.ref s.heap.objs.size) { s with heap:=h' }:=fun its r' hz h' c' kp e =>
  ⟨.ref s.heap.objs.size,_,I.laid (t':=s.toks) kp (Xd _) (show Zde X.prog X.w _ h' _ (.lst ys) from⟨hz,its,c',r',e⟩),rfl,q _ (I.hok.fresh (Xd _))⟩
 rcases hq with hq | hq
 ·obtain⟨its,r',pl,hz⟩:=I.list hq
  have hlen:=r'.length
  obtain⟨o,ho,hc,n,hd⟩:=pl.isList
  exact call_list_seq p (.inl rfl) ho hc hd (fun h' c' kp e=>fin its r' hz h' c' kp e) (by simp only[Xp]<;>omega)
 ·obtain⟨its,r',pl,hz⟩:=I.tuple hq
  have hlen:=r'.length
  obtain⟨o,ho,hc,n,hd⟩:=pl
  exact call_list_seq p (.inr rfl) ho hc hd (fun h' c' kp e=>fin its r' hz h' c' kp e) (by simp only[Xp]<;>omega)
theorem Zlf:Zj8 X (.type "tuple") (fun xs H Q=>∃ p ys,xs=[.ref p]/\((SqL X.K H p ys/\∀ l,H l=none->Q (.ref l) (upd H l (.tup ys)))\/(SqT X.K H p ys/\Q (.ref p) H))):=by
 intro pins s σ H xs us Q I r h
 obtain⟨p,ys,rfl,h⟩:=h
 obtain⟨u,rfl,rx⟩:=Zi5 r
 cases rx
 rcases h with ⟨hq,q⟩ | ⟨hq,q⟩
 ·obtain⟨its,r',pl,hz⟩:=I.list hq
  have hlen:=r'.length
  refine call_tuple_list pl.isList (fun h' kp=>?_) (by simp only[Xp]<;>omega)
  have I1:Inv X pins σ H { s with heap:=h' }:=I.kept (t':=s.toks) kp
  have I2:Inv X pins σ (upd H h'.objs.size (.tup ys)) { s with heap:=h'.push { cls:=.type "tuple",data:=.seq its.toArray } } :=
   I1.laid (t':=s.toks) (fun b o e=>Xa _ e) (Xd _) (show Zde X.prog X.w _ _ _ (.tup ys) from⟨hz,its,r',Zmc.new _ _⟩)
  exact⟨.ref h'.objs.size,_,I2,rfl,q _ (I1.hok.fresh (Xd _))⟩
 ·obtain⟨its,r',pl,hz⟩:=I.tuple hq
  exact call_tuple_same pl ⟨.ref p,H,I,rfl,q⟩
def tyV (K:Xb) (T:String) (x:V) (H:Hp):Prop:=match x with
 | .str _=>T = "str"
 | .int _=>T = "int"
 | .ref p=>(T = "list" /\ ∃ xs,SqL K H p xs)\/(T = "tuple" /\ ∃ o,K.lookup p=some o/\o.cls=.type "tuple" /\ o.dict=none) \/
   (T = "dict" /\ ((∃ kvs,H p=some (.dK kvs))\/∃ kvs,H p=some (.dT kvs)))\/(T = "set" /\ ∃ S n,H p=some (.set S n))
 | _=>False
theorem Ydp {pins:List (Ve×Obj)} {σ:St} {H:Hp} {s:Vd} {T:String} {x:V} {v:Vb} (I:Inv X pins σ H s) (r:Zcg x v) (ty:tyV X.K T x H) :
  s.TypeIs v T/\∀ a,v=.ref a->∃ ob,s.heap.get? a=some ob/\ob.dict=none:=by
 cases x with
 | str z =>
  obtain⟨t,rfl⟩:=r
  cases (show T = "str" from ty)
  exact⟨typeIs_str s z t,fun _ e=>nomatch e⟩
 | int i =>
  obtain⟨t,rfl⟩:=r
  cases (show T = "int" from ty)
  exact⟨Uct s i t,fun _ e=>nomatch e⟩
 | ref p =>
  cases r
  rcases ty with ⟨rfl,xs,hq⟩ | ⟨rfl,o,hk,hc,hd⟩ | ⟨rfl,hk⟩ | ⟨rfl,S,n,hk⟩
  ·obtain⟨its,_,pl,_⟩:=I.list hq
   refine⟨pl.isList.typeIs,fun a e=>?_⟩
   cases e
   obtain⟨o,n,e,c,hd,_⟩:=pl
   exact⟨o,e,hd⟩
  ·refine⟨⟨o,I.kIn p o hk,hc⟩,fun a e=>?_⟩
   cases e
   exact⟨o,I.kIn _ o hk,hd⟩
  ·have z:∃ o,s.heap.get? p=some o/\o.ExactDict:=by
    rcases hk with ⟨kvs,hk⟩ | ⟨kvs,hk⟩
    ·obtain⟨_,_,_,_,o,_,_,e,ex,_⟩:=I.hok p _ hk
     exact⟨o,e,ex⟩
    ·obtain⟨_,_,_,_,o,_,_,e,ex,_⟩:=I.hok p _ hk
     exact⟨o,e,ex⟩
   obtain⟨o,e,ex⟩:=z
   refine⟨⟨o,e,ex.1⟩,fun a e2=>?_⟩
   cases e2
   exact⟨o,e,ex.2.1⟩
  ·obtain⟨o,_,_,_,e,ex,_⟩:=I.hok p _ hk
   refine⟨⟨o,e,ex.1⟩,fun a e2=>?_⟩
   cases e2
   exact⟨o,e,ex.2.1⟩
 | _=>exact Uj ty
nonrec def tBM (K:Xb) (T:String) (r:V->List V->Hp->VK->Prop) (to:TE) (t:TA):TE:=fun σ H Q=>to σ H fun x H1=>tyV K T x H1/\t σ H1 fun xs H2=>r x xs H2 Q
variable {o e:Vw} {es:List Vw} {to:TE} {t:TA} {name:Str} {apos cpos:Pos} {T id:String} {r:V->List V->Hp->VK->Prop}
theorem pe_bm (pa:PlainAttrs T) (slot:Slot T name id) (hty:typeOf (.builtin id)=pure (.type "method_descriptor")) (hm:MtR X id r) (ho:PE X o to) (ha:PA X (e::es) t)
  (hbase:Udl o name X.env (eval o X.env)=eval o X.env:=by rfl)
  (hfew:((Uam cpos (Vg (e::es) X.env)).all (fun x => !x.1)&&(Udm cpos (Ubl [] X.env)).all (fun x=>x.1.isSome)
   && decide ((e::es).length+([]:List Ubx).length+(if ([]:List Ubx).isEmpty then 0 else 1)<30))=true:=by rfl)
  (hline:(apos.endLine==cpos.line)=true:=by rfl) (hs:Vg (e::es) X.env=(false,eval e X.env)::Vg es X.env:=by rfl) (hplain:(Uam cpos (Vg es X.env)).any (·.1)=false:=by rfl) :
  PE X (.Call (.Attribute o name apos) (e::es) [] cpos) (tBM X.K T r to t):=by
 intro pins s σ H Q I h
 refine Uce hbase hfew hline rfl (thn (ho pins s σ H _ I h) fun v s1 zz=>?_)
 obtain⟨x,H1,I1,r1,ty,q1⟩:=zz
 obtain⟨h1,h2⟩:=Ydp I1 r1 ty
 refine⟨T,id,pa,slot,hty,h1,h2,?_⟩
 have hA:=ha cpos pins s1 σ H1 _ I1 q1
 rw[hs] at hA ⊢
 refine Tbo (by show (false||(Uam cpos (Vg es X.env)).any (·.1))=false; rw[hplain]<;>rfl) (Tbz ?_)
 exact thn hA fun us s2 ⟨vs,H2,I2,r2,q2⟩=>hm pins s2 σ H2 x vs v us Q I2 r1 r2 q2
end
def MtM (X:Cx) (id:String) (r:V->List V->Hp->VK->Prop):Prop :=
 ∀ (pins:List (Ve×Obj)) (s:Vd) (σ:St) (H:Hp) (x:V) (xs:List V) (v:Vb) (us:List Vb) (Q:VK),Inv X pins σ H s->Zcg x v->Zb7 xs us->r x xs H Q ->
  Vf (Vm X.prog X.w) X.A (call (.builtin id) (v::us)) (EP X pins σ Q) X.xe s
theorem Zb7.one:∀ {x:V} {us:List Vb},Zb7 [x] us->∃ u,us=[u]/\Zcg x u:=by
 intro x us h
 cases h with
 | cons r t=>cases t; exact⟨_,rfl,r⟩
theorem Zb7.rep {xs:List V} {us:List Vb} (h:Zb7 xs us):∀ k:Nat,Zb7 (Xv k xs).flatten (Xv k us).flatten
 | 0=>.nil
 | k+1=>by
  rw[Wbp,Wbp,Wca,Wca]
  exact Zb7.append h (Zb7.rep h k)
theorem Zjc (its:List Vb):∀ (k:Nat) (acc:List Vb),
  Wea (fun x1 x2=>x1++x2) acc.toArray (Xv k its.toArray)=(acc++(Xv k its).flatten).toArray
 | 0,acc=>by simp
 | k+1,acc=>by
  have e:acc.toArray++its.toArray=(acc++its).toArray:=by simp
  have e2:(acc++its)++(Xv k its).flatten=acc++(Xv (k+1) its).flatten:=by
   rw[Wbp,Wca,Wae]
  rw[<- e2,<- Zjc its k (acc++its),<- e,Wbp,List.foldl_cons]
section
variable {X:Cx} {pins:List (Ve×Obj)} {σ:St} {H:Hp} {s:Vd} {l b:Ve} {xs ys zs:List V}
theorem Inv.lset {its its':List Vb} {n:Nat} {f:Array Vb->Array Vb} {t':Nat} (I:Inv X pins σ H s) (hH:H l=some (.lst xs))
  (e:s.heap.get? l=some { cls:=.type "list",data:=.seq its.toArray n }) (hf:f its.toArray=its'.toArray) (hv:Zb7 ys its') (hz:ys.length<=sizeLine) :
  Inv X pins σ (upd H l (.lst ys)) { s with heap:=s.heap.update l (Tax f),toks:=t' }:=by
 have q:=PySem.IsL.update e f
 rw[hf] at q
 refine I.write (x:=l) (e:=l) (by rw[hH]; exact trivial) (.inl rfl) (fun b' u hb hu=>(Heap.get?_update_other s.heap (Tax f) (Uo hb)).trans hu) ⟨_,q⟩ ?_
 exact⟨hz,its',_,hv,q⟩
theorem Inv.lnew {its:List Vb} {t':Nat} (I:Inv X pins σ H s) (hv:Zb7 ys its) (hz:ys.length<=sizeLine) :
  Inv X pins σ (upd H s.heap.objs.size (.lst ys)) { s with heap:=s.heap.push { cls:=.type "list",data:=.seq its.toArray },toks:=t' } :=
 I.laid (fun _ _ q=>Xa _ q) (Xd _) ⟨hz,its,0,hv,Xf _ rfl⟩
theorem Inv.fresh (I:Inv X pins σ H s):H s.heap.objs.size=none:=I.hok.fresh (Xd _)
theorem Inv.lstM (I:Inv X pins σ H s) (hH:H l=some (.lst xs)):xs.length<=sizeLine/\∃ (its:List Vb) (n:Nat),Zb7 xs its/\xs.length=its.length/\s.heap.get? l=some { cls:=.type "list",data:=.seq its.toArray n }:=by
 obtain⟨z,its,n,r,e⟩:=I.hok l _ hH
 exact⟨z,its,n,r,r.length,e⟩
theorem Zw5 {n:Nat} (h:n<=sizeLine):Tal n=false:=by
 unfold Tal
 exact decide_eq_false (by omega)
end
section
variable {X:Cx}
nonrec def Ya1:V->List V->Hp->VK->Prop:=fun x vs H Q=>∃ l xs y,x=.ref l/\vs=[y]/\H l=some (.lst xs)/\xs.length<sizeLine/\Q .non (upd H l (.lst (xs++[y])))
theorem Zjb:MtM X "list.append" Ya1:=by
 intro pins s σ H x vs v us Q I rx rv h
 obtain⟨l,xs,y,rfl,rfl,hH,hz,q⟩:=h
 cases rx
 obtain⟨u,rfl,ru⟩:=rv.one
 obtain⟨z,its,n,r,hl,e⟩:=I.lstM hH
 refine Ubk F.slot_list_append ⟨_,e,rfl⟩ F.entry_list_append (F.args_list_append_2 _ _) (PySem.list_append l its.toArray n u (by rw[Xp]; omega)) ⟨e,?_⟩
 refine⟨.non,_,I.lset (its':=its++[u]) hH e (by simp) (r.append (.cons ru .nil)) ?_,rfl,q⟩
 rw[Xq,Wbj]
 omega
nonrec def rCat:R2:=fun x y H Q=>∃ l b xs zs,x=.ref l/\y=.ref b/\H l=some (.lst xs)/\H b=some (.lst zs)/\xs.length+zs.length<=sizeLine/\∀ p,H p=none->Q (.ref p) (upd H p (.lst (xs++zs)))
theorem Yeq:OpR X (Vy .Add) rCat:=by
 intro pins s σ H x y v u Q I rx ry h
 obtain⟨l,b,xs,zs,rfl,rfl,hH,hB,hz,q⟩:=h
 cases rx
 cases ry
 obtain⟨z,its,n,r,hl,e⟩:=I.lstM hH
 obtain⟨z2,its2,n2,r2,hl2,e2⟩:=I.lstM hB
 refine PySem.P.add_list e e2 ?_ (by rw[Xp,Xp]; omega)
 have ea:its.toArray++its2.toArray=(its++its2).toArray:=by simp
 rw[ea]
 exact⟨.ref _,_,I.lnew (t':=s.toks) (r.append r2) (by rw[Xq]; omega),rfl,q _ I.fresh⟩
nonrec def rRep:R2:=fun x y H Q=>∃ l k xs,x=.ref l/\y=.int k/\H l=some (.lst xs) /\ -(2 ^ 63)<=k/\k<2 ^ 63/\xs.length*k.toNat<=sizeLine /\
 ∀ p,H p=none->Q (.ref p) (upd H p (.lst (Xv k.toNat xs).flatten))
theorem Zpi {α:Type} (xs:List α) (k:Nat):(Xv k xs).flatten.length=k*xs.length:=by
 induction k with
 | zero=>simp
 | succ k ih=>rw[Wbp,Wca,Xq,ih,Nat.succ_mul,Nat.add_comm]
theorem Yc5:OpR X (Vy .Mult) rRep:=by
 intro pins s σ H x y v u Q I rx ry h
 obtain⟨l,k,xs,rfl,rfl,hH,h1,h2,hz,q⟩:=h
 cases rx
 obtain⟨t,rfl⟩:=ry
 obtain⟨z,its,n,r,hl,e⟩:=I.lstM hH
 have hlen:its.toArray.size*k.toNat<=sizeLine:=by rw[Xp,<- hl]; exact hz
 have hcap:¬ its.toArray.size*k.toNat > (2 ^ 63 - 1) / 8:=by
  have:(sizeLine:Nat)<=(2 ^ 63 - 1) / 8:=by decide
  omega
 have hfit:¬ (!Builtin.List.listFitsIndex k)=true:=by
  rw[fitsIndex_both h1 h2]
  exact Wbl
 have hlong:¬ Tal (its.toArray.size*k.toNat)=true:=by
  rw[Zw5 hlen]
  exact Wbl
 have hnew:Wea (fun x1 x2=>x1++x2) #[] (Xv (if its.toArray.isEmpty=true then 0 else k.toNat) its.toArray)=(Xv k.toNat its).flatten.toArray:=by
  have f0:∀ m:Nat,Wea (fun x1 x2=>x1++x2) #[] (Xv m its.toArray)=(Xv m its).flatten.toArray:=fun m=>by
   have:=Zjc its m []
   rw[Wcz] at this
   exact this
  rw[f0]
  cases its with
  | nil=>simp
  | cons a r'=>rw[if_neg (by simp)]
 refine Ubs (T := "list") (U := "int") (by decide) ⟨_,e,rfl⟩ (fun s'=>Uct s' k t) noFill_list_mul F.fills_int_mul Taz repeat_list F.slot_int_index.lookup
  (Ubk Taz (Uct s k t) F.entry_int_rmul (Tci _ _) (int___rmul___int_list k t l its.toArray n)
   ⟨e,rfl,⟨_,e,rfl⟩,Ubk F.slot_list_mul ⟨_,e,rfl⟩ F.entry_list_mul (F.args_list_mul_2 _ _) (AutoListH.list___mul___list_int_3 l its.toArray n k t hfit hcap hlong) ⟨e,?_⟩⟩)
 rw[hnew]
 exact⟨.ref _,_,I.lnew (t':=s.toks) (r.rep k.toNat) (by rw[Zpi,Wfm]; exact hz),rfl,q _ I.fresh⟩
end
section
variable {prog:Vi} {w:Vu} {A:Vt} {E:Vb->Vd->Prop} {s:Vd}
set_option maxRecDepth 100000 in
end
end L2
namespace Att
open PySem PySem.W PySem.Calls PyProof.Rows
theorem Zio {P:Params} {h:Uaa}:∀ (ns:List Int) (vs:List Vb),WellAll P h vs (ns.map WData.int)->Uax vs ns:=by
 intro ns
 induction ns with
 | nil =>
  intro vs w
  rw[Wdt] at w
  cases w
  exact .nil
 | cons n ns ih =>
  intro vs w
  rw[Xl] at w
  cases w with
  | cons a b =>
   cases a
   exact .cons _ _ (ih _ b)
theorem Zvf {l:OpenLaw} {n:Nat} (hn:l.most=some n) {P:Params} {h:Uaa} {args:List WData} {vals:List Vb}
  (hpre:l.row.toRowW.claim.pre args=true) (hwl:WellAll P h vals args) :
  ∃ a vs ns,vals=[Ux a]/\args=[WData.list (ns.map WData.int)]/\h.get? a=some { cls:=.type "list",data:=.seq vs.toArray }/\Uax vs ns/\ns.length<=n:=by
 have hsh:WShape.hasAll [] args [.list .int]=true:=(pre_splitW hpre).1
 have hc:l.pre.holds [] { args:=args }=true:=(pre_splitW hpre).2
 obtain⟨d,r,rfl,h1,h2⟩:=hasAllW_cons hsh
 obtain rfl:=hasAllW_nil h2
 obtain⟨xs,rfl,h3⟩:=hasW_list h1
 obtain⟨ns,rfl⟩:=items_int h3
 have hlen:ns.length<=n:=by
  unfold OpenLaw.pre at hc
  have h4:(WTm.not (.lt (.lit (.int (n:Int))) (.len (.arg 0)))).holds [] { args:=[.list (ns.map .int)] }=true:=by
   have h4:=(holds_andW hc).1
   rw[hn] at h4
   exact h4
  have h5:=condW_of h4 (w_not (w_lt w_lit (w_len_list (w_arg rfl))))
  rw[Xo] at h5
  refine Nat.le_of_not_lt fun q=>?_
  have q':(n:Int)<((ns.length:Nat):Int):=by omega
  first
   | (rw[decide_eq_true q'] at h5; exact absurd h5 (by decide))
   | (simp at h5; omega)
 cases hwl with
 | cons w1 w2 =>
  cases w2
  cases w1 with
  | list ho hall=>exact⟨_,_,ns,rfl,rfl,ho,Zio ns _ hall,hlen⟩
theorem Zts (l:OpenLaw) (args:List WData):l.row.toRowW.claim.post args (.bool true) args=true :=
 postW_of (r:=l.row.toRowW) (X:=(true==true))
  (show WShape.has [] (.bool true) .bool=true by first | rfl | decide | simp[WShape.has,WShape.arms,WShape.armsAll])
  (show (WTm.eq .res (.lit (.bool true))).value [] { args:=args,res:=some (.bool true),after:=args }=some (.bool (true==true)) from w_eq_bool (w_res rfl) w_lit) rfl
theorem attach_call {l:OpenLaw} {n:Nat} {q:Vi} {loose:List Str} {XP:(Str->Option Vb)->Uaa->Prop} {YP:Vu->Uaa->Prop} {d:DefRec}
  (hn:l.most=some n) (hdf:d.params.defaults=[])
  (call:∀ (w:Vu) (s₀ s₁:Vd) (mg mb:Str->Option Vb) (fa:Ve) (o:Obj) (pm cd doc:Vb) (a:Ve) (vs:List Vb) (ns:List Int),
   Ground q loose [] XP w s₀ mg mb s₁.heap->YP w s₁.heap ->
   s₁.heap.get? fa=some o->o.data=.func (docDef d.name d.params d.body d.scope pm cd doc)->s₁.heap.CodeRec cd d.name->mg d.name=some (.ref fa) ->
   s₁.heap.get? a=some { cls:=.type "list",data:=.seq vs.toArray }->Uax vs ns->ns.length<=n->s₁.gens = #[] ->
   Ucl (Vm l.prog w) Udp (.call (.ref fa) ⟨[.ref a],[]⟩) (fun r s'=>r=.ok (.ret (.bool true))/\OldK s₁.heap s'.heap/\s'.os=s₁.os/\Uch s'.gens) s₁) :
  WalkO q loose XP YP l.row.toRowW d [] (fun f vs=>Tct f vs):=by
 intro w s₀ s₁ mg mb G Y fa o pm cd doc dV kV ho hd hcd hD hmg hg args vals as hpre hlay hrd hwl hlo
 obtain rfl:dV=.none:=Dflts.none hD hdf
 obtain rfl:kV=.none:=Dflts.noKw hD
 obtain⟨a,vs,ns,rfl,rfl,hobj,hints,hlen⟩:=Zvf hn hpre hwl
 refine enter_call (Ubq (call w s₀ s₁ mg mb fa o pm cd doc a vs ns G Y ho (fd_plain hd) hcd hmg hobj hints hlen hg) fun r s' hq=>?_)
 obtain⟨rfl,h2,h3,h4⟩:=hq
 exact⟨.inl ⟨.bool true,.bool true,[],rfl,fun _=>rfl,.bool true,Zts l _,fun _=>⟨List.Pairwise.nil,fun _ hm=>(nomatch hm)⟩⟩,h2,h3,h4⟩
end Att
namespace L2
open PySem PySem.Spec PyProof.Rows
theorem vals_ints:∀ {vs:List Vb} {ns:List Int},Uax vs ns->Zb7 (ns.map V.int) vs
 | _,_,.nil=>.nil
 | _,_,.cons n t h=>.cons ⟨t,rfl⟩ (vals_ints h)
nonrec abbrev KOf {K:Xb} {h:Uaa} (_:K.In h):Xb:=K
nonrec def Zcu (s:Uab):Udz:=match s with
 | .FunctionDef _ a _ _ _ _ _ _ _ _=>a
 | _=>{ posonlyargs:=[],args:=[],vararg:=none,kwonlyargs:=[],kw_defaults:=[],kwarg:=none,defaults:=[] }
nonrec def Za8 (s:Uab):List Uab:=match s with
 | .FunctionDef _ _ b _ _ _ _ _ _ _=>b
 | _=>[]
nonrec def Zad (s:Uab):Ubj:=match s with
 | .FunctionDef _ _ _ _ _ _ sc _ _ _=>sc
 | _=>{ kind:=.function,names:=[],isGenerator:=false,isCoroutine:=false }
nonrec abbrev CX0:CXT:=fun _ _ _ _ _ _=>False
nonrec abbrev E0:XK:=fun _ _ _=>False
theorem Ydb {X:Cx}:Ztu CX0 X E0:=fun _ _ _ _ _ _ _ h=>h.elim
structure Fun (K:Xb) (x qual:Str) (st:Uab) (f:Ve) (fd:Uaq):Prop where
 ex:∃ (oc:Vb) (od:Option Ve) (kV doc pm:Vb) (an:Option Ve) (cdv ct:Vb) (osl:Array (Option Vb)),
  fd=Wbi x qual (Zcu st) (Za8 st) (Zad st) .none kV doc pm an cdv ct/\K.lookup f=some ⟨oc,od,.func fd,osl⟩/\Wcs K cdv qual=true
 kp:Wcg K (.ref f)=true
section
variable {P:Vi} {w:Vu} {K:Xb} {mg:Str->Option Vb} {base:Uaa}
theorem Fun.ok {x qual:Str} {st:Uab} {f:Ve} {fd:Uaq} {N ps:List Str} {k:Nat} {sp:Sp} (F:Fun K x qual st f fd) (S:FnScope N ps (Zad st)) (len:∀ vs H Q E,sp vs H Q E->vs.length=ps.length)
  (hbody:∀ (cdv:Vb) (A:Vt) (outer:List Env) (s:Vd) (H:Hp) (vs:List V) (Q:VK) (E:XK),Room k (A.deeper (Uba qual (Zad st) s.heap.objs.size f cdv))->sp vs H Q E ->
   ∃ t,PSs (Zmk CX0 P w K mg base N qual (Zad st) f cdv A outer s H E).nox (Za8 st) t/\t { nx:=fun _ H'=>Q .non H',rt:=Q } (start N vs) H):FnOk P w K mg base CX0 (k+1) f fd ps sp:=by
 obtain⟨oc,od,kV,doc,pm,an,cdv,ct,osl,rfl,lk,hcd⟩:=F.ex
 refine fn_of lk hcd S len fun A outer s H vs Q E hr hsp=>?_
 obtain⟨t,h,q⟩:=hbody cdv A outer s H vs Q E hr hsp
 exact⟨t,h.nox,q⟩
theorem Fun.binds {x qual:Str} {st:Uab} {f:Ve} {fd:Uaq} {ps:List Str} (F:Fun K x qual st f fd)
  (h:∀ (kV doc pm:Vb) (an:Option Ve) (cdv ct:Vb) (us:List Vb),us.length=ps.length->Ucs (Wbi x qual (Zcu st) (Za8 st) (Zad st) .none kV doc pm an cdv ct) ⟨us,[]⟩=pure (ps.zip us)):Zoi K fd ps []:=by
 obtain⟨oc,od,kV,doc,pm,an,cdv,ct,osl,rfl,lk,hcd⟩:=F.ex
 exact .all (h kV doc pm an cdv ct)
theorem Zyt {x qual:Str} {st:Uab} {f:Ve} {oc:Vb} {od an:Option Ve} {osl:Array (Option Vb)} {kV doc pm cdv ct:Vb} (l:K.lookup f=some ⟨oc,od,.func (Wbi x qual (Zcu st) (Za8 st) (Zad st) .none kV doc pm an cdv ct),osl⟩)
  (c:Wcs K cdv qual=true) (k:Wcg K (.ref f)=true):Fun K x qual st f (Wbi x qual (Zcu st) (Za8 st) (Zad st) .none kV doc pm an cdv ct):=⟨⟨oc,od,kV,doc,pm,an,cdv,ct,osl,rfl,l,c⟩,k⟩
end
section
variable {X:Cx}
theorem pv (i:Nat) {x:Str} {pos:Pos} (hN:X.N[i]? = some x:=by rfl) (hv:Vis X.env.scope x:=by first | exact Tba rfl | exact Tau (Tba rfl) | exact Tau (Tau rfl)) (hd:(x==("__debug__" : Str))=false:=by decide)
  (hcd:(x==("__classdict__" : Str))=false:=by decide):PE X (.Name x pos) (Ydh i):=Ydy hN hv hd hcd
end
end L2
set_option maxHeartbeats 4000000
set_option autoImplicit false
namespace DL
open PySem PySem.Spec PyProof.Rows L2
nonrec def Zvr:Vb->Option Int
 | .int i _=>some i
 | .bool b=>some (if b then 1 else 0)
 | _=>none
nonrec def Zn6 (k:Int) (v:Vb):Bool:=Zvr v==some k
theorem Zey {k:Int} {v:Vb} (h:Zn6 k v=true):(∃ t,v=.int k t)\/∃ b,v=.bool b/\k=(if b then 1 else 0):=by
 have h:Zvr v=some k:=eq_of_beq h
 cases v with
 | int i t=>exact .inl ⟨t,by cases h; rfl⟩
 | bool b=>exact .inr ⟨b,rfl,(Wac.inj h).symm⟩
 | _=>cases h
section
variable {prog:Vi} {w:Vu} {A:Vt} {E:Vb->Vd->Prop} {s:Vd}
theorem Zpg {b:Bool} {Q:Int->Vd->Prop} (h:Q (Udu (if b then 1 else 0)) { s with toks:=s.toks+1 }):Vf (Vm prog w) A (pyHash (.bool b)) Q E s:=by
 have hr:=rawHash_range (if b then 1 else 0)
 have tb:s.TypeIs (.bool b) "bool" := rfl
 unfold pyHash
 have hv:[Tbw b].any Value.onHeap=false:=rfl
 refine Va ?_
 rw[cRoomFor,if_neg (by rw[hv]; exact Wbl)]; refine Vc ?_
 refine Va (wpAny_specialOf tb Tas.lookup ?_)
 show Vf _ _ (if (some (Value.builtin "int.__hash__")==some Ur)=true then _ else _) Q E s
 rw[if_neg (by rw[beq_builtin_none]; exact Wbl)]
 refine Va (wpAny_specialOf tb Tas.lookup ?_)
 show Vf _ _ (callSpecialIfBoundUnlessNone? (.bool b) "__hash__" _ >>= _) Q E s
 refine Va (wpAny_callSpecialIfBoundUnlessNone?_slot tb Tas
  (Vo Tas tb entry_int_hash
   (show Vf _ _ (do ret (<- mkInt (rawHash (if b then 1 else 0)))) _ _ s from wpAny_ret_mkInt ?_) (args_int_hash _)))
 show Vf _ _ (if (decide (-(2:Int) ^ 63<=rawHash (if b then 1 else 0))&&decide (rawHash (if b then 1 else 0)<2 ^ 63))=true then _ else _) Q E _
 rw[if_pos (by rw[decide_eq_true hr.1,decide_eq_true hr.2]; rfl)]
 exact Vc h
end
nonrec def Zcx (prog:Vi) (w:Vu):KeyKind prog w Int where
 is:=Zn6
 hash:=Udu
 inj:=fun v a b ha hb=>by
  unfold Zn6 at ha hb
  have:=(eq_of_beq ha).symm.trans (eq_of_beq hb)
  exact Wac.inj this
 byValue:=fun k v h=>by rcases Zey h with ⟨t,rfl⟩ | ⟨b,rfl,_⟩<;>rfl
 pyHash:=fun hv h=>by
  rcases Zey hv with ⟨t,rfl⟩ | ⟨b,rfl,rfl⟩
  ·exact wpAny_pyHash_int h
  ·exact Zpg h
 eqBool:=fun {A E s a b u v Q} hu hv h=>by
  rcases Zey hu with ⟨t,rfl⟩ | ⟨c,rfl,rfl⟩<;>rcases Zey hv with ⟨t',rfl⟩ | ⟨c',rfl,rfl⟩
  ·exact wpAny_eqBool_int h
  ·exact Tcq _ _ _ prog w E Q h
  ·exact Tcr _ _ _ prog w E Q h
  ·refine Tcp _ _ prog w E Q ?_
   have e:(c==c')=decide ((if c then (1:Int) else 0)=(if c' then 1 else 0)):=by cases c<;>cases c'<;>rfl
   rw[e]; exact h
 «strs»:=fun k x t v h=>by simp[Zn6,Zvr] at h
nonrec def iIsz (k:Int) (v:Vb):Bool:=match v with
 | .int i _=>i==k
 | _=>false
theorem Zkk {k:Int} {v:Vb} (h:iIsz k v=true):∃ t,v=.int k t:=by
 cases v with
 | int i t=>exact⟨t,by rw[eq_of_beq (show (i==k)=true from h)]⟩
 | _=>cases h
theorem Zi9 {k:Int} {t:Tok}:iIsz k (.int k t)=true:=beq_self_eq_true k
theorem Zfy {k:Int} {v:Vb} (h:iIsz k v=true):Zn6 k v=true:=by
 obtain⟨t,rfl⟩:=Zkk h
 exact beq_self_eq_true (some k)
nonrec def Zwj (prog:Vi) (w:Vu):KeyKind prog w Int where
 is:=iIsz
 hash:=Udu
 inj:=fun v a b ha hb=>(Zcx prog w).inj v a b (Zfy ha) (Zfy hb)
 byValue:=fun k v h=>(Zcx prog w).byValue k v (Zfy h)
 pyHash:=fun hv h=>(Zcx prog w).pyHash (Zfy hv) h
 eqBool:=fun {A E s a b u v Q} hu hv h=>(Zcx prog w).eqBool (a:=a) (b:=b) (Zfy hu) (Zfy hv) h
 «strs»:=fun k x t v h=>by cases h
inductive D where
 | non | bl (b:Bool) | int (i:Int) | str (x:Str) | ty (n:String) | tup (xs:List D) | fl (xs:List D) | ref (n:Nat)
inductive DO where
 | lst (xs:List D) | dic (kvs:List (D×D)) (fz:Bool) | dci (kvs:List (Int×D)) | dcn (kvs:List (D×D)) | obj (cn:Str) (fs:List (Str×D)) | exc (cn:Str) | clo (n:String) (x:Str) (d:D) | tab (n:String) (b:Bool)
nonrec abbrev HD:=List DO
nonrec abbrev SD:=List (Option D)
def FzL (K:Xb) (H:Hp) (a:Ve) (xs:List V):Prop :=
 (∃ o,H a=some (.frz o (.lst xs))) \/
  ∃ (o:Obj) (its:Array Vb) (n:Nat),K.lookup a=some o/\o.cls=.type "list" /\ o.dict=none/\o.data=.seq its n/\its.size<=sizeLine/\Zb7 xs its.toList
theorem FzL.sq {K:Xb} {H:Hp} {a:Ve} {xs:List V} (h:FzL K H a xs):SqL K H a xs:=by
 rcases h with h | h
 ·exact .inl (.inr h)
 ·exact .inr h
nonrec def Zy9 (n:String):Bool:=n == "bool" || n == "int" || n == "str" || n == "tuple" || n == "list"
mutual
noncomputable def Rep (K:Xb) (H:Hp) (ι:List Ve):D->V->Prop
 | .non,v=>v=.non
 | .bl b,v=>v=.bl b
 | .int i,v=>v=.int i
 | .str x,v=>v=.str x
 | .ty n,v=>(Zy9 n=true/\v=.ty n)\/(Zy9 n=false/\∃ a,v=.ref a/\Wcw K Vl (Ua n)=some (some (.ref a)))
 | .tup ds,v=>∃ a vs,v=.ref a/\SqT K H a vs/\Zmy K H ι ds vs
 | .fl ds,v=>∃ a vs,v=.ref a/\FzL K H a vs/\Zmy K H ι ds vs
 | .ref n,v=>∃ a,v=.ref a/\ι[n]? = some a
noncomputable def Zmy (K:Xb) (H:Hp) (ι:List Ve):List D->List V->Prop
 | [],vs=>vs=[]
 | d::ds,vs=>∃ v r,vs=v::r/\Rep K H ι d v/\Zmy K H ι ds r
end
section
variable {α β:Type} {F G:α->β->Prop}
theorem Prd.len:∀ {xs:List α} {us:List β},Vj F xs us->xs.length=us.length
 | _,_,.nil=>rfl
 | _,_,.cons _ t=>by simp[Prd.len t]
theorem Prd.get:∀ {xs:List α} {us:List β} {i:Nat} {x:α},Vj F xs us->xs[i]? = some x->∃ u,us[i]? = some u/\F x u
 | _,_,_,_,.nil,e=>by simp at e
 | _,_,0,_,.cons r _,e=>by simp at e; subst e; exact⟨_,rfl,r⟩
 | _,_,i+1,x,.cons _ t,e=>by
  obtain⟨u,h1,h2⟩:=Prd.get (i:=i) (x:=x) t (by simpa using e)
  exact⟨u,by simpa using h1,h2⟩
theorem Prd.append:∀ {xs ys:List α} {us ws:List β},Vj F xs us->Vj F ys ws->Vj F (xs++ys) (us++ws)
 | _,_,_,_,.nil,s=>s
 | _,_,_,_,.cons r t,s=>.cons r (Prd.append t s)
theorem Prd.take:∀ {xs:List α} {us:List β} (n:Nat),Vj F xs us->Vj F (xs.take n) (us.take n)
 | _,_,0,_=>.nil
 | _,_,_+1,.nil=>.nil
 | _,_,n+1,.cons r t=>.cons r (Prd.take n t)
theorem Prd.drop:∀ {xs:List α} {us:List β} (n:Nat),Vj F xs us->Vj F (xs.drop n) (us.drop n)
 | _,_,0,r=>r
 | _,_,_+1,.nil=>.nil
 | _,_,n+1,.cons _ t=>Prd.drop n t
theorem Prd.rep {xs:List α} {us:List β} (h:Vj F xs us):∀ k:Nat,Vj F (Xv k xs).flatten (Xv k us).flatten
 | 0=>.nil
 | k+1=>by
  rw[Wbp,Wca,Wbp,Wca]
  exact Prd.append h (Prd.rep h k)
theorem Prd.imp:∀ {xs:List α} {us:List β},Vj F xs us->(∀ a b,a∈xs->F a b->G a b)->Vj G xs us
 | _,_,.nil,_=>.nil
 | _,_,.cons r t,f=>.cons (f _ _ (by simp) r) (Prd.imp t fun a b h=>f a b (by simp[h]))
end
section
variable {K:Xb} {H H':Hp} {ι ι':List Ve}
theorem Zd8:∀ {ds:List D} {vs:List V},Zmy K H ι ds vs ↔ Vj (Rep K H ι) ds vs
 | [],vs=>by
  constructor
  ·intro h; rw[Zmy] at h; subst h; exact .nil
  ·intro h; cases h; rw[Zmy]
 | d::ds,vs=>by
  constructor
  ·intro h; rw[Zmy] at h
   obtain⟨v,r,rfl,h1,h2⟩:=h
   exact .cons h1 (Zd8.mp h2)
  ·intro h
   cases h with
   | cons h1 h2=>rw[Zmy]; exact⟨_,_,rfl,h1,Zd8.mpr h2⟩
@[simp] theorem rep_non {v:V}:Rep K H ι .non v ↔ v=.non:=by rw[Rep]
@[simp] theorem rep_bl {b:Bool} {v:V}:Rep K H ι (.bl b) v ↔ v=.bl b:=by rw[Rep]
@[simp] theorem rep_int {i:Int} {v:V}:Rep K H ι (.int i) v ↔ v=.int i:=by rw[Rep]
@[simp] theorem rep_str {x:Str} {v:V}:Rep K H ι (.str x) v ↔ v=.str x:=by rw[Rep]
theorem Zzf {n:String} {v:V} (h:Zy9 n=true):Rep K H ι (.ty n) v ↔ v=.ty n:=by rw[Rep]; simp[h]
theorem Zyx {n:String} {v:V} (h:Zy9 n=false):Rep K H ι (.ty n) v ↔ ∃ a,v=.ref a/\Wcw K Vl (Ua n)=some (some (.ref a)):=by rw[Rep]; simp[h]
theorem Zbd {ds:List D} {v:V}:Rep K H ι (.tup ds) v ↔ ∃ a vs,v=.ref a/\SqT K H a vs/\Vj (Rep K H ι) ds vs:=by
 rw[Rep]
 constructor
 ·rintro⟨a,vs,h1,h2,h3⟩; exact⟨a,vs,h1,h2,Zd8.mp h3⟩
 ·rintro⟨a,vs,h1,h2,h3⟩; exact⟨a,vs,h1,h2,Zd8.mpr h3⟩
theorem Zhc {ds:List D} {v:V}:Rep K H ι (.fl ds) v ↔ ∃ a vs,v=.ref a/\FzL K H a vs/\Vj (Rep K H ι) ds vs:=by
 rw[Rep]
 constructor
 ·rintro⟨a,vs,h1,h2,h3⟩; exact⟨a,vs,h1,h2,Zd8.mp h3⟩
 ·rintro⟨a,vs,h1,h2,h3⟩; exact⟨a,vs,h1,h2,Zd8.mpr h3⟩
theorem Za1 {n:Nat} {v:V}:Rep K H ι (.ref n) v ↔ ∃ a,v=.ref a/\ι[n]? = some a:=by rw[Rep]
structure Lw (K:Xb) (H:Hp) (ι:List Ve) (H':Hp) (ι':List Ve):Prop where
 tup:∀ a xs,SqT K H a xs->SqT K H' a xs
 fz:∀ a xs,FzL K H a xs->FzL K H' a xs
 pre:∃ t,ι'=ι++t
 fr:∀ a o u,H a=some (.frz o u)->H' a=some (.frz o u)
structure Le (K:Xb) (H:Hp) (ι:List Ve) (H':Hp) (ι':List Ve):Prop extends Lw K H ι H' ι' where
 frame:∀ a o,H a=some o->a∉ι->H' a=some o/\a∉ι'
theorem Le.refl:Le K H ι H ι:=⟨⟨fun _ _ h=>h,fun _ _ h=>h,⟨[],by simp⟩,fun _ _ _ h=>h⟩,fun _ _ h n=>⟨h,n⟩⟩
theorem Le.trans {H1 H2:Hp} {ι1 ι2:List Ve} (a:Le K H ι H1 ι1) (b:Le K H1 ι1 H2 ι2):Le K H ι H2 ι2:=by
 refine⟨⟨fun x xs h=>b.tup x xs (a.tup x xs h),fun x xs h=>b.fz x xs (a.fz x xs h),?_,fun x o u h=>b.fr x o u (a.fr x o u h)⟩,fun x o h n=>?_⟩
 ·obtain⟨t,e⟩:=a.pre
  obtain⟨u,e'⟩:=b.pre
  exact⟨t++u,by rw[e',e,Wae]⟩
 ·obtain⟨h1,n1⟩:=a.frame x o h n
  exact b.frame x o h1 n1
theorem Lw.get (l:Lw K H ι H' ι') {n:Nat} {a:Ve} (h:ι[n]? = some a):ι'[n]? = some a:=by
 obtain⟨t,e⟩:=l.pre
 rw[e,Xh (by exact(Xc.mp h).1),h]
mutual
theorem Rep.monoW (l:Lw K H ι H' ι'):∀ {d:D} {v:V},Rep K H ι d v->Rep K H' ι' d v
 | .non,v,h=>by rw[Rep] at h ⊢; exact h
 | .bl _,v,h=>by rw[Rep] at h ⊢; exact h
 | .int _,v,h=>by rw[Rep] at h ⊢; exact h
 | .str _,v,h=>by rw[Rep] at h ⊢; exact h
 | .ty _,v,h=>by rw[Rep] at h ⊢; exact h
 | .tup ds,v,h=>by
  rw[Rep] at h ⊢
  obtain⟨a,vs,h1,h2,h3⟩:=h
  exact⟨a,vs,h1,l.tup a vs h2,Zmy.monoW l h3⟩
 | .fl ds,v,h=>by
  rw[Rep] at h ⊢
  obtain⟨a,vs,h1,h2,h3⟩:=h
  exact⟨a,vs,h1,l.fz a vs h2,Zmy.monoW l h3⟩
 | .ref n,v,h=>by
  rw[Rep] at h ⊢
  obtain⟨a,h1,h2⟩:=h
  exact⟨a,h1,l.get h2⟩
theorem Zmy.monoW (l:Lw K H ι H' ι'):∀ {ds:List D} {vs:List V},Zmy K H ι ds vs->Zmy K H' ι' ds vs
 | [],vs,h=>by rw[Zmy] at h ⊢; exact h
 | d::ds,vs,h=>by
  rw[Zmy] at h ⊢
  obtain⟨v,r,h1,h2,h3⟩:=h
  exact⟨v,r,h1,Rep.monoW l h2,Zmy.monoW l h3⟩
end
theorem Rep.mono (l:Le K H ι H' ι') {d:D} {v:V} (h:Rep K H ι d v):Rep K H' ι' d v:=Rep.monoW l.toLw h
theorem Prd.monoW (l:Lw K H ι H' ι') {ds:List D} {vs:List V} (h:Vj (Rep K H ι) ds vs):Vj (Rep K H' ι') ds vs:=Zd8.mp (Zmy.monoW l (Zd8.mpr h))
theorem Prd.mono (l:Le K H ι H' ι') {ds:List D} {vs:List V} (h:Vj (Rep K H ι) ds vs):Vj (Rep K H' ι') ds vs:=Prd.monoW l.toLw h
nonrec def nkOf:D->Option Int
 | .int i=>some i
 | .bl b=>some (if b then 1 else 0)
 | _=>none
nonrec def Znc:List D->Option (List Int)
 | []=>some []
 | d::r=>(nkOf d).bind fun k=>(Znc r).map fun ks=>k::ks
nonrec def nk:D->Option (List Int)
 | .tup ds=>Znc ds
 | _=>none
nonrec def Yey (ks:List Int):Int:=reduceHash (Tbk (ks.map Udu))
def Zdb (a:Ve) (xs:List (List Int×Ve×Vb)) (h:Uaa):Prop :=
 ∃ o es ep,h.get? a=some o/\o.ExactDict/\o.data=.dict es ep/\es.toList=xs.map (fun x=>(⟨Yey x.1,.ref x.2.1,x.2.2⟩:Uaj))/\(xs.map (·.1)).Nodup
theorem Zdb.keep {a:Ve} {xs:List (List Int×Ve×Vb)} {h1 h2:Uaa} (d:Zdb a xs h1) (k:∀ o,h1.get? a=some o->h2.get? a=some o):Zdb a xs h2:=by
 obtain⟨o,es,ep,e,r⟩:=d
 exact⟨o,es,ep,k o e,r⟩
def Zsm (K:Xb) (H:Hp) (ι:List Ve) (p:D×D) (x:List Int×Ve×Vb):Prop:=nk p.1=some x.1/\Rep K H ι p.1 (.ref x.2.1)/\∃ v,Zcg v x.2.2/\Rep K H ι p.2 v
def Zfa (a:Ve) (xs:List (Int×Vb)) (h:Uaa):Prop:=∀ (p:Vi) (w:Vu),h.DictOf (Zwj p w) a xs
theorem Zfa.keep {a:Ve} {xs:List (Int×Vb)} {h1 h2:Uaa} (d:Zfa a xs h1) (k:∀ o,h1.get? a=some o->h2.get? a=some o):Zfa a xs h2:=fun p w=>by
 obtain⟨o,es,ep,e,r⟩:=d p w
 exact⟨o,es,ep,k o e,r⟩
def Zw9 (K:Xb) (H:Hp) (ι:List Ve) (p:Int×D) (x:Int×Vb):Prop:=p.1=x.1/\∃ v,Zcg v x.2/\Rep K H ι p.2 v
nonrec def nk2:D->Option (Int×List Int)
 | .tup [a,b]=>(nkOf a).bind fun i=>(nk b).map fun ks=>(i,ks)
 | _=>none
nonrec def nHash (k:Int×List Int):Int:=reduceHash (Tbk [Udu k.1,Yey k.2])
def DcnAt (a:Ve) (xs:List ((Int×List Int)×Ve×Vb)) (h:Uaa):Prop :=
 ∃ o es ep,h.get? a=some o/\o.ExactDict/\o.data=.dict es ep/\es.toList=xs.map (fun x=>(⟨nHash x.1,.ref x.2.1,x.2.2⟩:Uaj))/\(xs.map (·.1)).Nodup
def NRep (K:Xb) (H:Hp) (ι:List Ve) (p:D×D) (x:(Int×List Int)×Ve×Vb):Prop:=nk2 p.1=some x.1/\Rep K H ι p.1 (.ref x.2.1)/\∃ v,Zcg v x.2.2/\Rep K H ι p.2 v
def FRep (K:Xb) (H:Hp) (ι:List Ve) (p:Str×D) (x:Str×V):Prop:=p.1=x.1/\Rep K H ι p.2 x.2
def ExcAt (a C:Ve) (h:Uaa):Prop:=∃ o,h.get? a=some o/\o.cls=.ref C
nonrec def fzO (a:Ve) (o:Obj):HO:=.frz o (.ext fun h=>h.get? a=some o)
nonrec def Yfb:Uab->Pos
 | .FunctionDef _ _ _ _ _ _ _ _ _ p=>p
 | _=>default
nonrec def Yfe:Uab->Str
 | .FunctionDef n _ _ _ _ _ _ _ _ _=>n
 | _=>default
def Zi1 (K:Xb) (n:String) (st:Uab):Prop:=∃ f0 o0 fd0 rest,Wcw K Vl (Ua n)=some (some (.ref f0))/\K.lookup f0=some o0/\o0.data=.func fd0/\fd0.body=.stmts (st::rest)
def Zrl (H:Hp) (c':Ve) (qual:Str):Prop:=∃ o vs t,H c'=some (fzO c' o)/\o.data=.fields vs/\vs[1]? = some (.str qual t)
def Zsd (K:Xb) (H:Hp) (n:String) (x:Str) (a:Ve) (w:V):Prop :=
 ∃ st nm qual doc pm ct c c' oc uc u,Zi1 K n st/\H a=some (fzO a (PySem.W.fnMade nm qual (Zcu st) (Za8 st) (Zad st) [(x,c)] doc pm c' ct))/\Zrl H c' qual/\H c=some (.frz oc uc)/\oc.data=.cell (some u)/\Zcg w u
def TabAt (K:Xb) (H:Hp) (n:String) (a:Ve) (b:Bool):Prop :=
 ∃ st c ps,Zi1 K n st/\PySem.W.tabIn K (Ua n)=some (c,a)/\H a=some (.tbl ps)/\TriplesOk ps.toList/\(b=false->codeAmong (Yfb st) ps.toList=none) /\
  (b=true->∃ c',codeAmong (Yfb st) ps.toList=some (.ref c')/\Zrl H c' (Ua n ++ ".<locals>." ++ Yfe st))
nonrec def Zrd (K:Xb) (H:Hp) (ι:List Ve) (a:Ve):DO->Prop
 | .lst ds=>∃ vs,H a=some (.lst vs)/\Vj (Rep K H ι) ds vs
 | .dic kvs fz=>(a==Uaf)=false/\kvs.length<=sizeLine/\∃ xs,(if fz=true then ∃ o,H a=some (.frz o (.ext (Zdb a xs))) else H a=some (.ext (Zdb a xs)))/\Vj (Zsm K H ι) kvs xs
 | .dci kvs=>(a==Uaf)=false/\kvs.length<=sizeLine/\∃ xs,H a=some (.ext (Zfa a xs))/\Vj (Zw9 K H ι) kvs xs
 | .dcn kvs=>(a==Uaf)=false/\kvs.length<=sizeLine/\∃ xs,H a=some (.ext (DcnAt a xs))/\Vj (NRep K H ι) kvs xs
 | .obj cn fs=>∃ C dx xs,Wcw K Vl cn=some (some (.ref C))/\H a=some (.ins C dx xs)/\Vj (FRep K H ι) fs xs
 | .exc cn=>∃ C,Wcw K Vl cn=some (some (.ref C))/\H a=some (.ext (ExcAt a C))
 | .clo n x d=>∃ w,Zsd K H n x a w/\Rep K H ι d w
 | .tab n b=>TabAt K H n a b
structure HRep (K:Xb) (H:Hp) (ι:List Ve) (Hd:HD):Prop where
 len:ι.length=Hd.length
 nd:ι.Nodup
 obj:∀ (n:Nat) (a:Ve) (o:DO),ι[n]? = some a->Hd[n]? = some o->Zrd K H ι a o
theorem Zrd.there {a:Ve} {o:DO} (h:Zrd K H ι a o):H a≠none:=by
 cases o with
 | lst ds=>obtain⟨vs,e,_⟩:=h; rw[e]; simp
 | dic kv fz =>
  obtain⟨_,_,xs,e,_⟩:=h
  cases fz with
  | true=>rw[if_pos rfl] at e; obtain⟨ob,e⟩:=e; rw[e]; simp
  | false=>rw[if_neg (by simp)] at e; rw[e]; simp
 | dci kv=>obtain⟨_,_,xs,e,_⟩:=h; rw[e]; simp
 | dcn kv=>obtain⟨_,_,xs,e,_⟩:=h; rw[e]; simp
 | obj cn fs=>obtain⟨C,dx,xs,_,e,_⟩:=h; rw[e]; simp
 | exc cn=>obtain⟨C,_,e⟩:=h; rw[e]; simp
 | clo n x d=>obtain⟨w,⟨_,_,_,_,_,_,_,_,_,_,_,_,e,_⟩,_⟩:=h; rw[e]; simp
 | tab n b=>obtain⟨_,_,_,_,_,e,_⟩:=h; rw[e]; simp
theorem Zrl.step {c':Ve} {qual:Str} (h:Zrl H c' qual) (l:Lw K H ι H' ι'):Zrl H' c' qual:=by
 obtain⟨o,vs,t,e,r⟩:=h
 exact⟨o,vs,t,l.fr _ _ _ e,r⟩
theorem Zsd.step {n:String} {x:Str} {a:Ve} {w:V} (h:Zsd K H n x a w) (l:Lw K H ι H' ι'):Zsd K H' n x a w:=by
 obtain⟨st,nm,qual,doc,pm,ct,c,c',oc,uc,u,h1,h2,h3,h4,h5⟩:=h
 exact⟨st,nm,qual,doc,pm,ct,c,c',oc,uc,u,h1,l.fr _ _ _ h2,h3.step l,l.fr _ _ _ h4,h5⟩
theorem Zrd.step {a:Ve} {o:DO} (h:Zrd K H ι a o) (l:Lw K H ι H' ι') (e:H' a=H a):Zrd K H' ι' a o:=by
 cases o with
 | lst ds=>obtain⟨vs,q,r⟩:=h; exact⟨vs,by rw[e,q],Prd.monoW l r⟩
 | dic kv fz=>obtain⟨h1,h2,xs,q,r⟩:=h; exact⟨h1,h2,xs,by rw[e]; exact q,Prd.imp r fun p x _ z=>⟨z.1,Rep.monoW l z.2.1,let ⟨v,z1,z2⟩:=z.2.2; ⟨v,z1,Rep.monoW l z2⟩⟩⟩
 | dci kv=>obtain⟨h1,h2,xs,q,r⟩:=h; exact⟨h1,h2,xs,by rw[e]; exact q,Prd.imp r fun p x _ z=>⟨z.1,let ⟨v,z1,z2⟩:=z.2; ⟨v,z1,Rep.monoW l z2⟩⟩⟩
 | dcn kv=>obtain⟨h1,h2,xs,q,r⟩:=h; exact⟨h1,h2,xs,by rw[e]; exact q,Prd.imp r fun p x _ z=>⟨z.1,Rep.monoW l z.2.1,let ⟨v,z1,z2⟩:=z.2.2; ⟨v,z1,Rep.monoW l z2⟩⟩⟩
 | obj cn fs=>obtain⟨C,dx,xs,h1,q,r⟩:=h; exact⟨C,dx,xs,h1,by rw[e]; exact q,Prd.imp r fun p x _ z=>⟨z.1,Rep.monoW l z.2⟩⟩
 | exc cn=>obtain⟨C,h1,q⟩:=h; exact⟨C,h1,by rw[e]; exact q⟩
 | clo n x d=>obtain⟨w,h1,h2⟩:=h; exact⟨w,h1.step l,Rep.monoW l h2⟩
 | tab n b =>
  obtain⟨st,c,ps,h1,h2,h3,h4,h5,h6⟩:=h
  refine⟨st,c,ps,h1,h2,by rw[e]; exact h3,h4,h5,fun hb=>?_⟩
  obtain⟨c',h7,h8⟩:=h6 hb
  exact⟨c',h7,h8.step l⟩
theorem HRep.at {Hd:HD} (h:HRep K H ι Hd) {n:Nat} {o:DO} (e:Hd[n]? = some o):∃ a,ι[n]? = some a/\Zrd K H ι a o:=by
 have hl:n<ι.length:=by rw[h.len]; exact(Xc.mp e).1
 exact⟨ι[n],by simp[hl],h.obj n _ o (by simp[hl]) e⟩
theorem HRep.has {Hd:HD} (h:HRep K H ι Hd) {a:Ve} (hm:a∈ι):∃ (n:Nat) (o:DO),ι[n]? = some a/\Hd[n]? = some o/\Zrd K H ι a o:=by
 obtain⟨n,hn⟩:=Wbw.mp hm
 have hl:n<Hd.length:=by rw[<- h.len]; exact(Xc.mp hn).1
 exact⟨n,Hd[n],hn,by simp[hl],h.obj n a Hd[n] hn (by simp[hl])⟩
theorem HRep.fresh {Hd:HD} (h:HRep K H ι Hd) {p:Ve} (hp:H p=none):p∉ι:=fun hm=>by
 obtain⟨_,_,_,_,o⟩:=h.has hm
 exact o.there hp
theorem HRep.keep {Hd:HD} (h:HRep K H ι Hd) (l:Lw K H ι H' ι) (e:∀ a∈ι,H' a=H a):HRep K H' ι Hd :=
 ⟨h.len,h.nd,fun n a o h1 h2=>(h.obj n a o h1 h2).step l (e a (Xz h1))⟩
theorem Lw.fresh {p:Ve} (hp:H p=none) (o:HO):Lw K H ι (upd H p o) ι where
 tup:=fun a xs h=>by
  rcases h with (h | ⟨ob,h⟩) | h
  ·exact .inl (.inl (by rw[Zah (Zai h hp)]; exact h))
  ·exact .inl (.inr ⟨ob,by rw[Zah (Zai h hp)]; exact h⟩)
  ·exact .inr h
 fz:=fun a xs h=>by
  rcases h with ⟨ob,h⟩ | h
  ·exact .inl ⟨ob,by rw[Zah (Zai h hp)]; exact h⟩
  ·exact .inr h
 pre:=⟨[],by simp⟩
 fr:=fun a ob u h=>by rw[Zah (Zai h hp)]; exact h
theorem Le.fresh {p:Ve} (hp:H p=none) (o:HO):Le K H ι (upd H p o) ι:=⟨Lw.fresh hp o,fun a ob h n=>⟨by rw[Zah (Zai h hp)]; exact h,n⟩⟩
theorem Le.fresh1 {p:Ve} (hp:H p=none) (o:HO):Le K H ι (upd H p o) (ι++[p]) where
 tup:=(Le.fresh (ι:=ι) hp o).tup
 fz:=(Le.fresh (ι:=ι) hp o).fz
 pre:=⟨[p],rfl⟩
 fr:=(Le.fresh (K:=K) (ι:=ι) hp o).fr
 frame:=fun a ob h n=>⟨by rw[Zah (Zai h hp)]; exact h,by
  have:=Zai h hp
  simp[n,this]⟩
theorem HRep.tup {Hd:HD} (h:HRep K H ι Hd) {p:Ve} (hp:H p=none) (o:HO):HRep K (upd H p o) ι Hd :=
 h.keep (Lw.fresh hp o) fun a ha=>Zah fun z=>by subst z; exact h.fresh hp ha
theorem HRep.new {Hd:HD} (h:HRep K H ι Hd) {p:Ve} (hp:H p=none) {u:HO} {o:DO} (ho:Zrd K (upd H p u) (ι++[p]) p o):HRep K (upd H p u) (ι++[p]) (Hd++[o]):=by
 have hf:=h.fresh hp
 refine⟨by simp[h.len],by simp only[Waq,h.nd,true_and]; exact⟨by simp,fun a ha b hb e=>hf (by simp at hb; rw[<- hb,<- e]; exact ha)⟩,fun n a ob h1 h2=>?_⟩
 by_cases hn:n<ι.length
 ·rw[Xh hn] at h1
  rw[Xh (by rw[<- h.len]; exact hn)] at h2
  have ha:a∈ι:=Xz h1
  exact(h.obj n a ob h1 h2).step (Le.fresh1 hp u).toLw (Zah fun z=>by subst z; exact hf ha)
 ·rw[Xu (by omega)] at h1
  rw[Xu (by rw[<- h.len]; omega)] at h2
  rw[<- h.len] at h2
  have:n - ι.length=0:=by
   have:=(Xc.mp h1).1
   simp at this; omega
  rw[this] at h1 h2
  simp at h1 h2
  subst h1; subst h2
  exact ho
nonrec def Yew:HO->Prop
 | .lst _=>True
 | .ext _=>True
 | .ins _ _ _=>True
 | .tbl _=>True
 | _=>False
theorem Le.upd {a:Ve} (ha:a∈ι) {o:HO} (e:H a=some o) (lo:Yew o) (u:HO):Le K H ι (upd H a u) ι where
 tup:=fun b xs h=>by
  rcases h with (h | ⟨ob,h⟩) | h
  ·refine .inl (.inl ?_)
   rw[Zah (Zm3 h e (by rintro rfl; exact lo))]; exact h
  ·refine .inl (.inr ⟨ob,?_⟩)
   rw[Zah (Zm3 h e (by rintro rfl; exact lo))]; exact h
  ·exact .inr h
 fz:=fun b xs h=>by
  rcases h with ⟨ob,h⟩ | h
  ·refine .inl ⟨ob,?_⟩
   rw[Zah (Zm3 h e (by rintro rfl; exact lo))]; exact h
  ·exact .inr h
 pre:=⟨[],by simp⟩
 fr:=fun b ob w h=>by rw[Zah (Zm3 h e (by rintro rfl; exact lo))]; exact h
 frame:=fun b ob h n=>⟨by rw[Zah (by rintro rfl; exact n ha)]; exact h,n⟩
theorem HRep.upd {Hd:HD} (h:HRep K H ι Hd) {n:Nat} {a:Ve} (hn:ι[n]? = some a) {o u:HO} (e:H a=some o) (lo:Yew o) {ob:DO} (ho:Zrd K (upd H a u) ι a ob):HRep K (upd H a u) ι (Hd.set n ob):=by
 refine⟨by simp[h.len],h.nd,fun m b oc h1 h2=>?_⟩
 by_cases hm:n=m
 ·subst hm
  rw[hn] at h1; cases h1
  rw[Wdg] at h2
  rw[if_pos rfl] at h2
  split at h2
  ·cases h2; exact ho
  ·cases h2
 ·rw[Wap hm] at h2
  have hb:b≠a:=fun z=>by
   subst z
   have l1:=(Xc.mp hn).1
   exact hm ((Wfg l1 h.nd).mp (hn.trans h1.symm))
  exact(h.obj m b oc h1 h2).step (Le.upd (Xz hn) e lo u).toLw (Zah hb)
theorem HRep.add {Hd:HD} (h:HRep K H ι Hd) {p:Ve} (hp:p∉ι) {o:DO} (ho:Zrd K H (ι++[p]) p o):HRep K H (ι++[p]) (Hd++[o]):=by
 refine⟨by simp[h.len],by simp only[Waq,h.nd,true_and]; exact⟨by simp,fun a ha b hb e=>hp (by simp at hb; rw[<- hb,<- e]; exact ha)⟩,fun n a ob h1 h2=>?_⟩
 by_cases hn:n<ι.length
 ·rw[Xh hn] at h1
  rw[Xh (by rw[<- h.len]; exact hn)] at h2
  exact(h.obj n a ob h1 h2).step ⟨fun _ _ z=>z,fun _ _ z=>z,⟨[p],rfl⟩,fun _ _ _ z=>z⟩ rfl
 ·rw[Xu (by omega)] at h1
  rw[Xu (by rw[<- h.len]; omega)] at h2
  rw[<- h.len] at h2
  have:n - ι.length=0:=by
   have:=(Xc.mp h1).1
   simp at this; omega
  rw[this] at h1 h2
  simp at h1 h2
  subst h1; subst h2
  exact ho
theorem Lw.side {p:Ve} {ys:List V} (hp:H p=some (.lst ys)) (u:HO):Lw K H ι (L2.upd H p u) ι where
 tup:=fun a xs h=>by
  rcases h with (h | ⟨ob,h⟩) | h
  ·refine .inl (.inl ?_)
   rw[Zah (Zm3 h hp (by intro z; cases z))]; exact h
  ·refine .inl (.inr ⟨ob,?_⟩)
   rw[Zah (Zm3 h hp (by intro z; cases z))]; exact h
  ·exact .inr h
 fz:=fun a xs h=>by
  rcases h with ⟨ob,h⟩ | h
  ·refine .inl ⟨ob,?_⟩
   rw[Zah (Zm3 h hp (by intro z; cases z))]; exact h
  ·exact .inr h
 pre:=⟨[],by simp⟩
 fr:=fun a ob w h=>by rw[Zah (Zm3 h hp (by intro z; cases z))]; exact h
theorem Lw.trans {H1 H2:Hp} {ι1 ι2:List Ve} (a:Lw K H ι H1 ι1) (b:Lw K H1 ι1 H2 ι2):Lw K H ι H2 ι2:=by
 refine⟨fun x xs h=>b.tup x xs (a.tup x xs h),fun x xs h=>b.fz x xs (a.fz x xs h),?_,fun x o u h=>b.fr x o u (a.fr x o u h)⟩
 obtain⟨t,e⟩:=a.pre
 obtain⟨u,e'⟩:=b.pre
 exact⟨t++u,by rw[e',e,Wae]⟩
theorem Le.side {H1:Hp} {ι1:List Ve} {p:Ve} {ys:List V} (l:Le K H ι H1 ι1) (h0:H p=none) (h1:H1 p=some (.lst ys)) (u:HO):Le K H ι (L2.upd H1 p u) ι1 :=
 ⟨l.toLw.trans (Lw.side h1 u),fun a o h n=>by
  obtain⟨q,m⟩:=l.frame a o h n
  exact⟨by rw[Zah (Zai h h0)]; exact q,m⟩⟩
structure SRep (K:Xb) (H:Hp) (ι:List Ve) (σ:L2.St) (σd:SD):Prop where
 len:σ.length=σd.length
 var:∀ (i:Nat) (d:D),σd[i]? = some (some d)->∃ v,σ[i]? = some (some v)/\Rep K H ι d v
theorem SRep.mono {σ:L2.St} {σd:SD} (s:SRep K H ι σ σd) (l:Le K H ι H' ι'):SRep K H' ι' σ σd :=
 ⟨s.len,fun i d h=>let ⟨v,h1,h2⟩:=s.var i d h; ⟨v,h1,h2.mono l⟩⟩
theorem SRep.set {σ:L2.St} {σd:SD} {d:D} {v:V} (s:SRep K H ι σ σd) (r:Rep K H ι d v) (i:Nat):SRep K H ι (σ.set i (some v)) (σd.set i (some d)):=by
 refine⟨by simp[s.len],fun j e h=>?_⟩
 by_cases hj:i=j
 ·subst hj
  rw[Wdg] at h ⊢
  rw[if_pos rfl] at h ⊢
  split at h
  ·rename_i hl
   rw[if_pos (by rw[s.len]; exact hl)]
   cases h
   exact⟨v,rfl,r⟩
  ·cases h
 ·rw[Wap hj] at h ⊢
  exact s.var j e h
end
nonrec def Zp5:Vw->Bool
 | .Starred _ _=>false
 | _=>true
theorem Zbz {e:Vw} {es:List Vw} {env:Env} (h:Zp5 e=true):Vg (e::es) env=(false,eval e env)::Vg es env:=by
 cases e<;>first | rfl | cases h
theorem Zc0 {pos:Pos} {env:Env}:∀ {es:List Vw},es.all Zp5=true->(Uam pos (Vg es env)).any (·.1)=false
 | [],_=>rfl
 | e::es,h=>by
  rw[Wcn,Wah] at h
  rw[Zbz h.1]
  show (false||(Uam pos (Vg es env)).any (·.1))=false
  rw[Zc0 h.2]
  rfl
theorem Zqz {pos:Pos} {env:Env} {es:List Vw} (h:es.all Zp5=true) (hl:es.length<30):((Uam pos (Vg es env)).all (fun x => !x.1)&&(Udm pos (Ubl [] env)).all (fun x=>x.1.isSome)
   && decide (es.length+([]:List Ubx).length+(if ([]:List Ubx).isEmpty then 0 else 1)<30))=true:=by
 have h1:=Zc0 (pos:=pos) (env:=env) h
 have h2:(Uam pos (Vg es env)).all (fun x => !x.1)=true:=by
  rw[Xs]
  intro x hx
  rw[Wco] at h1
  have:=h1 x hx
  simpa using this
 have h3:decide (es.length+([]:List Ubx).length+(if ([]:List Ubx).isEmpty then 0 else 1)<30)=true:=by
  rw[decide_eq_true_eq]
  simpa using hl
 rw[h2,h3]
 rfl
nonrec abbrev EF:=SD->HD->Option (D×HD)
nonrec abbrev TF:=SD->HD->Option (Bool×HD)
nonrec abbrev AF:=SD->HD->Option (List D×HD)
inductive FD where
 | nx | bk | ct | rt (d:D)
nonrec abbrev SF:=SD->HD->Option (FD×SD×HD)
nonrec abbrev GF:=D->SD->HD->Option (SD×HD)
nonrec abbrev FF:=List D->HD->Option (D×HD)
nonrec abbrev F2:=D->D->HD->Option (D×HD)
def QE (K:Xb) (H:Hp) (ι:List Ve) (d:D) (Hd':HD) (Q:VK):Prop:=∀ v H' ι',Le K H ι H' ι'->HRep K H' ι' Hd'->Rep K H' ι' d v->Q v H'
nonrec def rdE (K:Xb) (f:EF):TE:=fun σ H Q=>∃ ι σd Hd d Hd',SRep K H ι σ σd/\HRep K H ι Hd/\f σd Hd=some (d,Hd')/\QE K H ι d Hd' Q
nonrec def rdT (K:Xb) (f:TF):TT:=fun σ H Q=>∃ ι σd Hd b Hd',SRep K H ι σ σd/\HRep K H ι Hd/\f σd Hd=some (b,Hd')/\∀ H' ι',Le K H ι H' ι'->HRep K H' ι' Hd'->Q b H'
nonrec def rdA (K:Xb) (f:AF):TA:=fun σ H Q=>∃ ι σd Hd ds Hd',SRep K H ι σ σd/\HRep K H ι Hd/\f σd Hd=some (ds,Hd')/\∀ vs H' ι',Le K H ι H' ι'->HRep K H' ι' Hd'->Vj (Rep K H' ι') ds vs->Q vs H'
def QS (K:Xb) (H:Hp) (ι:List Ve) (fl:FD) (σd':SD) (Hd':HD) (E:Ends):Prop:=∀ σ' H' ι',Le K H ι H' ι'->HRep K H' ι' Hd'->SRep K H' ι' σ' σd' ->
 match fl with
 | .nx=>E.nx σ' H'
 | .bk=>E.bk σ' H'
 | .ct=>E.ct σ' H'
 | .rt d=>∀ v,Rep K H' ι' d v->E.rt v H'
nonrec def rdS (K:Xb) (f:SF):TS:=fun E σ H=>∃ ι σd Hd fl σd' Hd',SRep K H ι σ σd/\HRep K H ι Hd/\f σd Hd=some (fl,σd',Hd')/\QS K H ι fl σd' Hd' E
nonrec def rdG (K:Xb) (g:GF):TG:=fun v σ H Q=>∃ ι σd Hd d σd' Hd',SRep K H ι σ σd/\HRep K H ι Hd/\Rep K H ι d v/\g d σd Hd=some (σd',Hd') /\
 ∀ σ' H' ι',Le K H ι H' ι'->HRep K H' ι' Hd'->SRep K H' ι' σ' σd'->Q σ' H'
nonrec def rd2 (K:Xb) (g:F2):R2:=fun x y H Q=>∃ ι dx dy Hd d Hd',HRep K H ι Hd/\Rep K H ι dx x/\Rep K H ι dy y/\g dx dy Hd=some (d,Hd')/\QE K H ι d Hd' Q
nonrec def rd1 (K:Xb) (g:D->HD->Option (D×HD)):V->Hp->VK->Prop:=fun x H Q=>∃ ι dx Hd d Hd',HRep K H ι Hd/\Rep K H ι dx x/\g dx Hd=some (d,Hd')/\QE K H ι d Hd' Q
nonrec def rdC (K:Xb) (g:FF):List V->Hp->VK->Prop:=fun vs H Q=>∃ ι ds Hd d Hd',HRep K H ι Hd/\Vj (Rep K H ι) ds vs/\g ds Hd=some (d,Hd')/\QE K H ι d Hd' Q
nonrec def rdM (K:Xb) (g:D->List D->HD->Option (D×HD)):V->List V->Hp->VK->Prop:=fun v vs H Q=>∃ ι x ds Hd d Hd',HRep K H ι Hd/\Rep K H ι x v/\Vj (Rep K H ι) ds vs/\g x ds Hd=some (d,Hd')/\QE K H ι d Hd' Q
def PEf (X:Cx) (e:Vw) (f:EF):Prop:=PE X e (rdE X.K f)
def PTf (X:Cx) (e:Vw) (f:TF):Prop:=PT X e (rdT X.K f)
def PWf (X:Cx) (e:Vw) (f:TF):Prop:=PW X e (rdT X.K f)
def PAf (X:Cx) (es:List Vw) (f:AF):Prop:=PA X es (rdA X.K f)
def PSf (X:Cx) (st:Uab) (f:SF):Prop:=PS X st (rdS X.K f)
def Zp0 (X:Cx) (st:List Uab) (f:SF):Prop:=PSs X st (rdS X.K f)
def PGf (X:Cx) (tg:Vw) (g:GF):Prop:=PG X tg (rdG X.K g)
def OpF (X:Cx) (f:Vb->Vb->Sem Vb) (g:F2):Prop:=OpR X f (rd2 X.K g)
def UnF (X:Cx) (f:Vb->Sem Vb) (g:D->HD->Option (D×HD)):Prop:=UnR X f (rd1 X.K g)
def Zid (X:Cx) (f:Vb) (g:FF):Prop:=Zj8 X f (rdC X.K g)
def IxF (X:Cx) (g:F2):Prop:=IxR X (rd2 X.K g)
def MtF (X:Cx) (id:String) (g:D->List D->HD->Option (D×HD)):Prop:=MtR X id (rdM X.K g)
section
variable {X:Cx} {e a b c:Vw} {es:List Vw} {pos:Pos} {st:Uab} {sts:List Uab}
theorem PEi {t t':TE} (h:PE X e t) (i:∀ σ H Q,t' σ H Q->t σ H Q):PE X e t':=fun pins s σ H Q I q=>h pins s σ H Q I (i σ H Q q)
theorem PTi {t t':TT} (h:PT X e t) (i:∀ σ H Q,t' σ H Q->t σ H Q):PT X e t':=fun pins s σ H Q I q=>h pins s σ H Q I (i σ H Q q)
theorem PWi {t t':TT} (h:PW X e t) (i:∀ σ H Q,t' σ H Q->t σ H Q):PW X e t':=fun wh pins s σ H Q I q=>h wh pins s σ H Q I (i σ H Q q)
theorem PAi {t t':TA} (h:PA X es t) (i:∀ σ H Q,t' σ H Q->t σ H Q):PA X es t':=fun ps pins s σ H Q I q=>h ps pins s σ H Q I (i σ H Q q)
theorem PSi {t t':TS} (h:PS X st t) (i:∀ E σ H,t' E σ H->t E σ H):PS X st t':=fun pins s σ H E I q=>h pins s σ H E I (i E σ H q)
theorem PSsi {t t':TS} (h:PSs X sts t) (i:∀ E σ H,t' E σ H->t E σ H):PSs X sts t':=fun pins s σ H E I q=>h pins s σ H E I (i E σ H q)
theorem PGi {t t':TG} (h:PG X e t) (i:∀ v σ H Q,t' v σ H Q->t v σ H Q):PG X e t':=fun pins s σ H v u Q I r q=>h pins s σ H v u Q I r (i v σ H Q q)
theorem OpRi {f:Vb->Vb->Sem Vb} {t t':R2} (h:OpR X f t) (i:∀ x y H Q,t' x y H Q->t x y H Q):OpR X f t':=fun pins s σ H x y v u Q I r1 r2 q=>h pins s σ H x y v u Q I r1 r2 (i x y H Q q)
nonrec def Zac (i:Nat):EF:=fun σ H=>(σ[i]?).join.map fun d=>(d,H)
nonrec def eC (d:D):EF:=fun _ H=>some (d,H)
theorem Zaa {i:Nat} {x:Str} (h:PE X (.Name x pos) (Ydh i)):PEf X (.Name x pos) (Zac i):=by
 refine PEi h fun σ H Q zz=>?_
 obtain⟨ι,σd,Hd,d,Hd',s,hr,e,q⟩:=zz
 unfold Zac at e
 cases hx:σd[i]? with
 | none=>rw[hx] at e; cases e
 | some o =>
  cases o with
  | none=>rw[hx] at e; cases e
  | some d0 =>
   rw[hx] at e
   have e':(d0,Hd)=(d,Hd'):=Wac.inj e
   obtain⟨rfl,rfl⟩:=Wbd.inj e'
   obtain⟨v,h1,h2⟩:=s.var i d0 hx
   exact⟨v,h1,q v H ι Le.refl hr h2⟩
theorem Zo7 {v:V} {d:D} (h:PE X e (tC v)) (r:∀ H ι,Rep X.K H ι d v):PEf X e (eC d):=by
 refine PEi h fun σ H Q zz=>?_
 obtain⟨ι,σd,Hd,d',Hd',s,hr,e,q⟩:=zz
 cases e
 exact q v H ι Le.refl hr (r H ι)
theorem Zae {i j}:PEf X (.Constant (.int i) j pos) (eC (.int i)):=Zo7 Yd9 fun _ _=>by simp
theorem Zkj {b j}:PEf X (.Constant (.bool b) j pos) (eC (.bl b)):=Zo7 pe_bl fun _ _=>by simp
theorem Zjm {j}:PEf X (.Constant .none j pos) (eC .non):=Zo7 Yep fun _ _=>by simp
theorem Zbf {x j}:PEf X (.Constant (.str x) j pos) (eC (.str x)):=Zo7 Yem fun _ _=>by simp
theorem Zh5 {x:Str} {n:String} (hg:Gl X x) (hm:X.mg x=none) (hv:Vp x=some (.type n)) (hn:x ≠ "__name__" := by decide) (hd:(x==("__debug__" : Str))=false:=by decide) (ht:Zy9 n=true:=by decide):PEf X (.Name x pos) (eC (.ty n)) :=
 Zo7 (Ybs (v:=.ty n) hg hm hv rfl hn hd) fun _ _=>(Zzf ht).mpr rfl
nonrec def eOp (g:F2) (fa fb:EF):EF:=fun σ H=>(fa σ H).bind fun p=>(fb σ p.2).bind fun q=>g p.1 q.1 q.2
theorem Zx3 {fa fb:EF} {g:F2} {σ:L2.St} {H:Hp} {Q:VK} {K:Xb} (h:rdE K (eOp g fa fb) σ H Q):tOp (rd2 K g) (rdE K fa) (rdE K fb) σ H Q:=by
 obtain⟨ι,σd,Hd,d,Hd',s,hr,e,q⟩:=h
 obtain⟨⟨x,H1⟩,e1,e⟩:=Zo e
 obtain⟨⟨y,H2⟩,e2,e⟩:=Zo e
 exact⟨ι,σd,Hd,x,H1,s,hr,e1,fun v1 H1' ι1 l1 h1 r1=>⟨ι1,σd,H1,y,H2,s.mono l1,h1,e2,fun v2 H2' ι2 l2 h2 r2 =>
  ⟨ι2,x,y,H2,d,Hd',h2,r1.mono l2,r2,e,fun v H' ι' l h r=>q v H' ι' ((l1.trans l2).trans l) h r⟩⟩⟩
theorem Zat {op:Udt} {g:F2} {fa fb:EF} (ho:OpF X (Vy op) g) (ha:PEf X a fa) (hb:PEf X b fb):PEf X (.BinOp a op b pos) (eOp g fa fb) :=
 PEi (pe_op ho ha hb) fun _ _ _ h=>Zx3 h
theorem Zco {op:Ueg} {g:F2} {fa fb:EF} (ho:OpF X (Vq op) g) (ha:PEf X a fa) (hb:PEf X b fb) (hm:Uav op b=false):PEf X (.Compare a [op] [b] pos) (eOp g fa fb) :=
 PEi (Yap ho ha hb hm) fun _ _ _ h=>Zx3 h
theorem Zay {g:F2} {fa fb:EF} (ho:IxF X g) (ha:PEf X a fa) (hb:PEf X b fb) (hs:Zug b):PEf X (.Subscript a b pos) (eOp g fa fb) :=
 PEi (pe_ix ho ha hb hs) fun _ _ _ h=>Zx3 h
nonrec def eUn (g:D->HD->Option (D×HD)) (fa:EF):EF:=fun σ H=>(fa σ H).bind fun p=>g p.1 p.2
theorem Zd6 {op:UnaryOp} {g:D->HD->Option (D×HD)} {fa:EF} (ho:UnF X (unaryOp op) g) (ha:PEf X a fa):PEf X (.UnaryOp op a pos) (eUn g fa):=by
 refine PEi (pe_un ho ha) fun σ H Q zz=>?_
 obtain⟨ι,σd,Hd,d,Hd',s,hr,e,q⟩:=zz
 obtain⟨⟨x,H1⟩,e1,e⟩:=Zo e
 exact⟨ι,σd,Hd,x,H1,s,hr,e1,fun v1 H1' ι1 l1 h1 r1=>⟨ι1,x,H1,d,Hd',h1,r1,e,fun v H' ι' l h r=>q v H' ι' (l1.trans l) h r⟩⟩
nonrec def blD:D->Option Bool
 | .bl b=>some b
 | _=>none
nonrec def tOf (f:EF):TF:=fun σ H=>(f σ H).bind fun p=>(blD p.1).map fun b=>(b,p.2)
theorem Zjv {K:Xb} {H:Hp} {ι:List Ve} {d:D} {b:Bool} {v:V} (e:blD d=some b) (r:Rep K H ι d v):v=.bl b:=by
 cases d<;>simp[blD] at e
 subst e
 simpa using r
theorem Zak {op:Ueg} {g:F2} {fa fb:EF} (ho:OpF X (Vq op) g) (ha:PEf X a fa) (hb:PEf X b fb) (hm:Uav op b=false):PTf X (.Compare a [op] [b] pos) (tOf (eOp g fa fb)):=by
 refine PTi (Yae ho ha hb hm) fun σ H Q zz=>?_
 obtain⟨ι,σd,Hd,bb,Hd',s,hr,e,q⟩:=zz
 obtain⟨⟨x,H1⟩,e1,e⟩:=Zo e
 obtain⟨b',eb,e⟩:=Zm e
 cases e
 exact Zx3 ⟨ι,σd,Hd,x,H1,s,hr,e1,fun v H' ι' l h r=>⟨bb,Zjv eb r,q H' ι' l h⟩⟩
nonrec def Zuc:D->HD->Option Bool
 | .non,_=>some false
 | .bl b,_=>some b
 | .int i,_=>some (i != 0)
 | .tup xs,_=>some (!xs.isEmpty)
 | .fl xs,_=>some (!xs.isEmpty)
 | .str x,_=>if x.length<=sizeLine then some ((x.length:Int) != 0) else none
 | .ref n,H=>match H[n]? with
  | some (.lst xs)=>some (!xs.isEmpty)
  | _=>none
 | _,_=>none
theorem Zi2 {α β:Type} {F:α->β->Prop} {xs:List α} {us:List β} (r:Vj F xs us):(!us.isEmpty) = !xs.isEmpty:=by cases r<;>rfl
theorem Ybc {K:Xb} {H:Hp} {ι:List Ve} {Hd:HD} {d:D} {k:Bool} {v:V} (hr:HRep K H ι Hd) (r:Rep K H ι d v) (e:Zuc d Hd=some k):TruV K v H k:=by
 cases d with
 | non=>simp at r; subst r; simp[Zuc] at e; subst e; exact rfl
 | bl b=>simp at r; subst r; simp[Zuc] at e; subst e; exact rfl
 | int i=>simp at r; subst r; simp[Zuc] at e; subst e; exact rfl
 | ty n=>simp[Zuc] at e
 | str x =>
  simp at r; subst r
  simp only[Zuc] at e
  split at e
  ·rename_i hl
   cases e
   exact⟨hl,rfl⟩
  ·cases e
 | tup xs =>
  obtain⟨ad,vs,rfl,h,p⟩:=Zbd.mp r
  cases (show some (!xs.isEmpty)=some k from e)
  exact .inr (.inl ⟨vs,h,by rw[Zi2 p]⟩)
 | fl xs =>
  obtain⟨ad,vs,rfl,h,p⟩:=Zhc.mp r
  cases (show some (!xs.isEmpty)=some k from e)
  exact .inl ⟨vs,h.sq,by rw[Zi2 p]⟩
 | ref n =>
  obtain⟨ad,rfl,h⟩:=Za1.mp r
  simp only[Zuc] at e
  split at e
  ·rename_i xs ho
   cases e
   obtain⟨vs,h1,p⟩:=hr.obj n ad _ h ho
   exact .inl ⟨vs,SqL.of h1,by rw[Zi2 p]⟩
  ·cases e
nonrec def Zfd (f:EF):TF:=fun σ H=>(f σ H).bind fun p=>(Zuc p.1 p.2).map fun b=>(b,p.2)
theorem Zg7 {fa:EF} (ha:PEf X a fa) (he:∀ whole,isTrue a X.env whole=(do let v<-whole; standAt a.pos; Udd [v] (truthy v))):PTf X a (Zfd fa):=by
 refine PTi (Zyb ha he) fun σ H Q zz=>?_
 obtain⟨ι,σd,Hd,bb,Hd',s,hr,e,q⟩:=zz
 obtain⟨⟨x,H1⟩,e1,e⟩:=Zo e
 obtain⟨b',eb,e⟩:=Zm e
 cases e
 exact⟨ι,σd,Hd,x,H1,s,hr,e1,fun v H' ι' l h r=>⟨bb,Ybc h r eb,q H' ι' l h⟩⟩
nonrec def tNo (t:TF):TF:=fun σ H=>(t σ H).map fun p=>(!p.1,p.2)
nonrec def tAn (t u:TF):TF:=fun σ H=>(t σ H).bind fun p=>if p.1=true then u σ p.2 else some (false,p.2)
nonrec def Zmg (t u:TF):TF:=fun σ H=>(t σ H).bind fun p=>if p.1=true then some (true,p.2) else u σ p.2
theorem Ybl {t:TF} (h:PTf X a t):PTf X (.UnaryOp .Not a pos) (tNo t):=by
 refine PTi (Yeo h) fun σ H Q zz=>?_
 obtain⟨ι,σd,Hd,bb,Hd',s,hr,e,q⟩:=zz
 obtain⟨⟨x,H1⟩,e1,e⟩:=Zm e
 cases e
 exact⟨ι,σd,Hd,x,H1,s,hr,e1,fun H' ι' l h=>q H' ι' l h⟩
theorem Zqk {t:TF} (h:PTf X a t):PWf X (.BoolOp .And [a] pos) t:=Ya8 h
theorem Yaq {t:TF} (h:PTf X a t):PWf X (.BoolOp .Or [a] pos) t:=Ycj h
theorem Zt2 {t u:TF} (h:PTf X a t) (h2:PWf X (.BoolOp .And (b::es) pos) u):PWf X (.BoolOp .And (a::b::es) pos) (tAn t u):=by
 refine PWi (Ye9 h h2) fun σ H Q zz=>?_
 obtain⟨ι,σd,Hd,bb,Hd',s,hr,e,q⟩:=zz
 obtain⟨⟨x,H1⟩,e1,e⟩:=Zo e
 refine⟨ι,σd,Hd,x,H1,s,hr,e1,fun H' ι' l h=>?_⟩
 cases x with
 | true =>
  rw[if_pos rfl]
  exact⟨ι',σd,H1,bb,Hd',s.mono l,h,by simpa using e,fun H2 ι2 l2 h2=>q H2 ι2 (l.trans l2) h2⟩
 | false =>
  rw[if_neg (by simp)]
  simp at e
  obtain⟨rfl,rfl⟩:=e
  exact q H' ι' l h
theorem Yea {t u:TF} (h:PTf X a t) (h2:PWf X (.BoolOp .Or (b::es) pos) u):PWf X (.BoolOp .Or (a::b::es) pos) (Zmg t u):=by
 refine PWi (pw_or h h2) fun σ H Q zz=>?_
 obtain⟨ι,σd,Hd,bb,Hd',s,hr,e,q⟩:=zz
 obtain⟨⟨x,H1⟩,e1,e⟩:=Zo e
 refine⟨ι,σd,Hd,x,H1,s,hr,e1,fun H' ι' l h=>?_⟩
 cases x with
 | true =>
  rw[if_pos rfl]
  simp at e
  obtain⟨rfl,rfl⟩:=e
  exact q H' ι' l h
 | false =>
  rw[if_neg (by simp)]
  exact⟨ι',σd,H1,bb,Hd',s.mono l,h,by simpa using e,fun H2 ι2 l2 h2=>q H2 ι2 (l.trans l2) h2⟩
theorem PWf.pt {t:TF} (h:PWf X a t):PTf X a t:=h _
nonrec def eNo (f:EF):EF:=fun σ H=>(f σ H).bind fun p=>(blD p.1).map fun b=>(.bl (!b),p.2)
nonrec def eAn (f g:EF):EF:=fun σ H=>(f σ H).bind fun p=>(blD p.1).bind fun b=>if b=true then g σ p.2 else some (.bl false,p.2)
nonrec def eIf (t:TF) (f g:EF):EF:=fun σ H=>(t σ H).bind fun p=>if p.1=true then f σ p.2 else g σ p.2
theorem Zop {f:EF} (h:PEf X a f):PEf X (.UnaryOp .Not a pos) (eNo f):=by
 refine PEi (Ycv h) fun σ H Q zz=>?_
 obtain⟨ι,σd,Hd,d,Hd',s,hr,e,q⟩:=zz
 obtain⟨⟨x,H1⟩,e1,e⟩:=Zo e
 obtain⟨b',eb,e⟩:=Zm e
 cases e
 exact⟨ι,σd,Hd,x,H1,s,hr,e1,fun v H' ι' l h r=>⟨b',Zjv eb r,q _ H' ι' l h (by simp)⟩⟩
theorem Yah {op} {f:EF} (h:PEf X a f):PEf X (.BoolOp op [a] pos) f:=Ydg h
theorem Ybt {f g:EF} (h:PEf X a f) (h2:PEf X (.BoolOp .And (b::es) pos) g):PEf X (.BoolOp .And (a::b::es) pos) (eAn f g):=by
 refine PEi (Ye0 h h2) fun σ H Q zz=>?_
 obtain⟨ι,σd,Hd,d,Hd',s,hr,e,q⟩:=zz
 obtain⟨⟨x,H1⟩,e1,e⟩:=Zo e
 obtain⟨b',eb,e⟩:=Zo e
 refine⟨ι,σd,Hd,x,H1,s,hr,e1,fun v H' ι' l h r=>⟨b',Zjv eb r,?_⟩⟩
 cases b' with
 | true =>
  rw[if_pos rfl]
  exact⟨ι',σd,H1,d,Hd',s.mono l,h,by simpa using e,fun v2 H2 ι2 l2 h2 r2=>q v2 H2 ι2 (l.trans l2) h2 r2⟩
 | false =>
  rw[if_neg (by simp)]
  simp at e
  obtain⟨rfl,rfl⟩:=e
  exact q _ H' ι' l h (by simp)
theorem Zpu {t:TF} {f g:EF} (hc:PTf X c t) (ha:PEf X a f) (hb:PEf X b g):PEf X (.IfExp c a b pos) (eIf t f g):=by
 refine PEi (Zyd hc ha hb) fun σ H Q zz=>?_
 obtain⟨ι,σd,Hd,d,Hd',s,hr,e,q⟩:=zz
 obtain⟨⟨x,H1⟩,e1,e⟩:=Zo e
 refine⟨ι,σd,Hd,x,H1,s,hr,e1,fun H' ι' l h=>?_⟩
 cases x with
 | true =>
  rw[if_pos rfl]
  exact⟨ι',σd,H1,d,Hd',s.mono l,h,by simpa using e,fun v2 H2 ι2 l2 h2 r2=>q v2 H2 ι2 (l.trans l2) h2 r2⟩
 | false =>
  rw[if_neg (by simp)]
  exact⟨ι',σd,H1,d,Hd',s.mono l,h,by simpa using e,fun v2 H2 ι2 l2 h2 r2=>q v2 H2 ι2 (l.trans l2) h2 r2⟩
nonrec def Zag:AF:=fun _ H=>some ([],H)
nonrec def Zab (f:EF) (g:AF):AF:=fun σ H=>(f σ H).bind fun p=>(g σ p.2).map fun q=>(p.1::q.1,q.2)
theorem Za3:PAf X [] Zag:=by
 refine PAi Yde fun σ H Q zz=>?_
 obtain⟨ι,σd,Hd,d,Hd',s,hr,e,q⟩:=zz
 cases e
 exact q [] H ι Le.refl hr .nil
theorem Zyg {f:EF} {g:AF} (ha:PEf X e f) (hr:PAf X es g) (hs:Vg (e::es) X.env=(false,eval e X.env)::Vg es X.env:=by exact Zbz rfl):PAf X (e::es) (Zab f g):=by
 refine PAi (Yba ha hr hs) fun σ H Q zz=>?_
 obtain⟨ι,σd,Hd,d,Hd',s,hr,e,q⟩:=zz
 obtain⟨⟨x,H1⟩,e1,e⟩:=Zo e
 obtain⟨⟨y,H2⟩,e2,e⟩:=Zm e
 cases e
 exact⟨ι,σd,Hd,x,H1,s,hr,e1,fun v1 H1' ι1 l1 h1 r1=>⟨ι1,σd,H1,y,H2,s.mono l1,h1,e2,fun vs H2' ι2 l2 h2 r2=>q _ H2' ι2 (l1.trans l2) h2 (.cons (r1.mono l2) r2)⟩⟩
nonrec def mkT (xs:List D) (H:HD):Option (D×HD):=if xs.length<=sizeLine then some (.tup xs,H) else none
nonrec def mkL (xs:List D) (H:HD):Option (D×HD):=if xs.length<=sizeLine then some (.ref H.length,H++[.lst xs]) else none
theorem Zih {xs:List D} {H:HD} {r:D×HD} (h:mkT xs H=some r):xs.length<=sizeLine/\r=(.tup xs,H):=by
 unfold mkT at h
 split at h
 ·rename_i hl; cases h; exact⟨hl,rfl⟩
 ·cases h
theorem Zlq {xs:List D} {H:HD} {r:D×HD} (h:mkL xs H=some r):xs.length<=sizeLine/\r=(.ref H.length,H++[.lst xs]):=by
 unfold mkL at h
 split at h
 ·rename_i hl; cases h; exact⟨hl,rfl⟩
 ·cases h
theorem Zi6 {K:Xb} {H:Hp} {ι:List Ve} {Hd Hd':HD} {xs:List D} {vs:List V} {d:D} {Q:VK} (hr:HRep K H ι Hd) (r:Vj (Rep K H ι) xs vs) (e:mkT xs Hd=some (d,Hd')) (q:QE K H ι d Hd' Q) :
  vs.length<=sizeLine/\∀ p,H p=none->Q (.ref p) (upd H p (.tup vs)):=by
 obtain⟨hl,e⟩:=Zih e
 cases e
 refine⟨by rw[<- Prd.len r]; exact hl,fun p hp=>?_⟩
 exact q _ _ ι (Le.fresh hp _) (hr.tup hp _) (Zbd.mpr ⟨p,vs,rfl,SqT.of Zas,Prd.mono (Le.fresh hp _) r⟩)
theorem Zgm {K:Xb} {H:Hp} {ι:List Ve} {Hd Hd':HD} {xs:List D} {vs:List V} {d:D} {Q:VK} (hr:HRep K H ι Hd) (r:Vj (Rep K H ι) xs vs) (e:mkL xs Hd=some (d,Hd')) (q:QE K H ι d Hd' Q) :
  vs.length<=sizeLine/\∀ p,H p=none->Q (.ref p) (upd H p (.lst vs)):=by
 obtain⟨hl,e⟩:=Zlq e
 cases e
 refine⟨by rw[<- Prd.len r]; exact hl,fun p hp=>?_⟩
 refine q _ _ (ι++[p]) (Le.fresh1 hp _) (hr.new hp ⟨vs,Zas,Prd.mono (Le.fresh1 hp _) r⟩) (Za1.mpr ⟨p,rfl,?_⟩)
 rw[<- hr.len]; simp
nonrec def Zdk (f:AF):EF:=fun σ H=>(f σ H).bind fun p=>mkT p.1 p.2
nonrec def Zdj (f:AF):EF:=fun σ H=>(f σ H).bind fun p=>mkL p.1 p.2
theorem Zcw {f:AF} {x1} (h:PAf X es f):PEf X (.Tuple es x1 pos) (Zdk f):=by
 refine PEi (Ye5 h) fun σ H Q zz=>?_
 obtain⟨ι,σd,Hd,d,Hd',s,hr,e,q⟩:=zz
 obtain⟨⟨x,H1⟩,e1,e⟩:=Zo e
 exact⟨ι,σd,Hd,x,H1,s,hr,e1,fun vs H' ι' l h r=>Zi6 h r e fun v2 H2 ι2 l2 h2 r2=>q v2 H2 ι2 (l.trans l2) h2 r2⟩
theorem Zon {f:AF} (h:PAf X es f):PEf X (.List es pos) (Zdj f):=by
 refine PEi (Ycq h) fun σ H Q zz=>?_
 obtain⟨ι,σd,Hd,d,Hd',s,hr,e,q⟩:=zz
 obtain⟨⟨x,H1⟩,e1,e⟩:=Zo e
 exact⟨ι,σd,Hd,x,H1,s,hr,e1,fun vs H' ι' l h r=>Zgm h r e fun v2 H2 ι2 l2 h2 r2=>q v2 H2 ι2 (l.trans l2) h2 r2⟩
nonrec def eCB (g:FF) (f:AF):EF:=fun σ H=>(f σ H).bind fun p=>g p.1 p.2
theorem Yd5 {f:AF} {g:FF} {σ:L2.St} {H:Hp} {Q:VK} {K:Xb} (h:rdE K (eCB g f) σ H Q):tCB (rdC K g) (rdA K f) σ H Q:=by
 obtain⟨ι,σd,Hd,d,Hd',s,hr,e,q⟩:=h
 obtain⟨⟨x,H1⟩,e1,e⟩:=Zo e
 exact⟨ι,σd,Hd,x,H1,s,hr,e1,fun vs H' ι' l h r=>⟨ι',x,H1,d,Hd',h,r,e,fun v2 H2 ι2 l2 h2 r2=>q v2 H2 ι2 (l.trans l2) h2 r2⟩⟩
theorem Zb8 {x:Str} {id:String} {g:FF} {f:AF} {p:Pos} (hc:Zid X (.builtin id) g) (hg:Gl X x) (hm:X.mg x=none) (hv:Vp x=some (.builtin id)) (ha:PAf X (e::es) f) (hn:x ≠ "__name__" := by decide) (hdb:(x==("__debug__" : Str))=false:=by decide)
  (he:Vg (e::es) X.env=(false,eval e X.env)::Vg es X.env:=by exact Zbz rfl) (hpl:(Uam pos (Vg es X.env)).any (·.1)=false:=by exact Zc0 rfl):PEf X (.Call (.Name x p) (e::es) [] pos) (eCB g f) :=
 PEi (Zwy hc hg hm hv ha hn hdb he hpl) fun _ _ _ h=>Yd5 h
theorem Zf5 {x:Str} {T:String} {g:FF} {f:AF} {p:Pos} (hc:Zid X (.type T) g) (hg:Gl X x) (hm:X.mg x=none) (hv:Vp x=some (.type T)) (ha:PAf X (e::es) f) (hn:x ≠ "__name__" := by decide) (hdb:(x==("__debug__" : Str))=false:=by decide)
  (he:Vg (e::es) X.env=(false,eval e X.env)::Vg es X.env:=by exact Zbz rfl) (hpl:(Uam pos (Vg es X.env)).any (·.1)=false:=by exact Zc0 rfl):PEf X (.Call (.Name x p) (e::es) [] pos) (eCB g f) :=
 PEi (Zt5 hc hg hm hv ha hn hdb he hpl) fun _ _ _ h=>Yd5 h
nonrec def spF (K:Xb) (n:Nat) (F:FF):Sp:=fun vs H Q _=>∃ ι ds Hd d Hd',ds.length=n/\HRep K H ι Hd/\Vj (Rep K H ι) ds vs/\F ds Hd=some (d,Hd')/\QE K H ι d Hd' Q
nonrec def Zap (n:Nat) (F:FF) (f:AF):EF:=fun σ H=>(f σ H).bind fun p=>if p.1.length=n then F p.1 p.2 else none
theorem Zx7 {k n:Nat} {f:Ve} {fd:Uaq} {ps:List Str} {x:Str} {p:Pos} {F:FF} {fa:AF} (G:FnOk X.prog X.w X.K X.mg X.base CX0 k f fd ps (spF X.K n F)) (hr:Room k X.A) (hg:Gl X x) (hm:X.mg x=some (.ref f)) (hk:Wcg X.K (.ref f)=true)
  (hb:Zoi X.K fd ps []) (ha:PAf X (e::es) fa) (hdb:(x==("__debug__" : Str))=false:=by decide) (he:Vg (e::es) X.env=(false,eval e X.env)::Vg es X.env:=by exact Zbz rfl) (hpl:(Uam pos (Vg es X.env)).any (·.1)=false:=by exact Zc0 rfl) :
  PEf X (.Call (.Name x p) (e::es) [] pos) (Zap n F fa):=by
 refine PEi (Ybh (E:=E0) G hr hg hm hk hb .nil Ydb ha hdb he hpl) fun σ H Q zz=>?_
 obtain⟨ι,σd,Hd,d,Hd',s,hr,e,q⟩:=zz
 obtain⟨⟨x,H1⟩,e1,e⟩:=Zo e
 refine⟨ι,σd,Hd,x,H1,s,hr,e1,fun vs H' ι' l h r=>?_⟩
 dsimp only at e
 split at e
 ·rename_i hl
  exact⟨ι',x,H1,d,Hd',hl,h,by simpa using r,e,fun v2 H2 ι2 l2 h2 r2=>q v2 H2 ι2 (l.trans l2) h2 r2⟩
 ·cases e
nonrec def Zoz:D->HD->Bool
 | .ref n,H=>match H[n]? with
  | some (.lst _)=>true
  | _=>false
 | _,_=>false
theorem Zx5 {K:Xb} {H:Hp} {ι:List Ve} {Hd:HD} {d:D} {v:V} (hr:HRep K H ι Hd) (r:Rep K H ι d v) (e:Zoz d Hd=true):tyV K "list" v H:=by
 cases d with
 | ref n =>
  obtain⟨ad,rfl,h⟩:=Za1.mp r
  simp only[Zoz] at e
  split at e
  ·rename_i xs ho
   obtain⟨vs,h1,p⟩:=hr.obj n ad _ h ho
   exact .inl ⟨rfl,vs,SqL.of h1⟩
  ·cases e
 | _=>simp[Zoz] at e
nonrec def eLM (g:D->List D->HD->Option (D×HD)) (fo:EF) (f:AF):EF:=fun σ H=>(fo σ H).bind fun o=>if Zoz o.1 o.2=true then (f σ o.2).bind fun p=>g o.1 p.1 p.2 else none
theorem Zki {o:Vw} {name:Str} {apos cpos:Pos} {id:String} {g:D->List D->HD->Option (D×HD)} {fo:EF} {f:AF} (slot:Slot "list" name id) (hty:typeOf (.builtin id)=pure (.type "method_descriptor")) (hm:MtF X id g) (ho:PEf X o fo) (ha:PAf X (e::es) f)
  (hbase:Udl o name X.env (eval o X.env)=eval o X.env:=by rfl)
  (hfew:((Uam cpos (Vg (e::es) X.env)).all (fun x => !x.1)&&(Udm cpos (Ubl [] X.env)).all (fun x=>x.1.isSome)
   && decide ((e::es).length+([]:List Ubx).length+(if ([]:List Ubx).isEmpty then 0 else 1)<30))=true:=by exact Zqz rfl (by decide))
  (hline:(apos.endLine==cpos.line)=true:=by rfl) (hs:Vg (e::es) X.env=(false,eval e X.env)::Vg es X.env:=by exact Zbz rfl) (hplain:(Uam cpos (Vg es X.env)).any (·.1)=false:=by exact Zc0 rfl) :
  PEf X (.Call (.Attribute o name apos) (e::es) [] cpos) (eLM g fo f):=by
 refine PEi (pe_bm PySem.F.plainAttrs_list slot hty hm ho ha hbase hfew hline hs hplain) fun σ H Q zz=>?_
 obtain⟨ι,σd,Hd,d,Hd',s,hr,e,q⟩:=zz
 obtain⟨⟨x,H1⟩,e1,e⟩:=Zo e
 dsimp only at e
 split at e
 ·rename_i hl
  obtain⟨⟨y,H2⟩,e2,e⟩:=Zo e
  exact⟨ι,σd,Hd,x,H1,s,hr,e1,fun v1 H1' ι1 l1 h1 r1=>⟨Zx5 h1 r1 hl,ι1,σd,H1,y,H2,s.mono l1,h1,e2,fun vs H2' ι2 l2 h2 r2 =>
   ⟨ι2,x,y,H2,d,Hd',h2,r1.mono l2,r2,e,fun v H' ι' l h r=>q v H' ι' ((l1.trans l2).trans l) h r⟩⟩⟩
 ·cases e
nonrec def Zaj:SF:=fun σ H=>some (.nx,σ,H)
nonrec def Zaf (f g:SF):SF:=fun σ H=>(f σ H).bind fun r=>match r.1 with
 | .nx=>g r.2.1 r.2.2
 | _=>some r
theorem Za5:Zp0 X [] Zaj:=by
 refine PSsi Zz3 fun E σ H zz=>?_
 obtain⟨ι,σd,Hd,fl,σd',Hd',s,hr,e,q⟩:=zz
 cases e
 exact q σ H ι Le.refl hr s
theorem Zam {f g:SF} (h1:PSf X st f) (h2:Zp0 X sts g):Zp0 X (st::sts) (Zaf f g):=by
 refine PSsi (Zwt h1 h2) fun E σ H zz=>?_
 obtain⟨ι,σd,Hd,fl,σd',Hd',s,hr,e,q⟩:=zz
 obtain⟨⟨f1,σ1,H1⟩,e1,e⟩:=Zo e
 refine⟨ι,σd,Hd,f1,σ1,H1,s,hr,e1,fun σ' H' ι' l h ss=>?_⟩
 cases f1 with
 | nx=>exact⟨ι',σ1,H1,fl,σd',Hd',ss,h,e,fun σ2 H2 ι2 l2 h2 s2=>q σ2 H2 ι2 (l.trans l2) h2 s2⟩
 | bk=>cases e; exact q σ' H' ι' l h ss
 | ct=>cases e; exact q σ' H' ι' l h ss
 | rt d=>cases e; exact q σ' H' ι' l h ss
nonrec def Zbc (f:EF):SF:=fun σ H=>(f σ H).map fun p=>(.rt p.1,σ,p.2)
theorem Zb4 {f:EF} (he:PEf X e f):PSf X (.Return (some e) pos) (Zbc f):=by
 refine PSi (Ycf he) fun E σ H zz=>?_
 obtain⟨ι,σd,Hd,fl,σd',Hd',s,hr,e,q⟩:=zz
 obtain⟨⟨x,H1⟩,e1,e⟩:=Zm e
 cases e
 exact⟨ι,σd,Hd,x,H1,s,hr,e1,fun v H' ι' l h r=>q σ H' ι' l h (s.mono l) v r⟩
nonrec def Yav:SF:=fun σ H=>some (.rt .non,σ,H)
theorem Zxv:PSf X (.Return none pos) Yav:=by
 refine PSi Zz0 fun E σ H zz=>?_
 obtain⟨ι,σd,Hd,fl,σd',Hd',s,hr,e,q⟩:=zz
 cases e
 exact q σ H ι Le.refl hr s .non (by simp)
nonrec def Zbw (f:EF):SF:=fun σ H=>(f σ H).map fun p=>(.nx,σ,p.2)
theorem Zex {f:EF} (he:PEf X e f) (hs:Ucj e none pos.line X.env=pure false:=by rfl):PSf X (.Expr e pos) (Zbw f):=by
 refine PSi (Zz6 he hs) fun E σ H zz=>?_
 obtain⟨ι,σd,Hd,fl,σd',Hd',s,hr,e,q⟩:=zz
 obtain⟨⟨x,H1⟩,e1,e⟩:=Zm e
 cases e
 exact⟨ι,σd,Hd,x,H1,s,hr,e1,fun v H' ι' l h r=>q σ H' ι' l h (s.mono l)⟩
nonrec def sIf (t:TF) (f g:SF):SF:=fun σ H=>(t σ H).bind fun p=>if p.1=true then f σ p.2 else g σ p.2
theorem Zh4 {t:TF} {f g:SF} {as bs:List Uab} (hc:PTf X c t) (ha:Zp0 X as f) (hb:Zp0 X bs g):PSf X (.If c as bs pos) (sIf t f g):=by
 refine PSi (ps_if hc ha hb) fun E σ H zz=>?_
 obtain⟨ι,σd,Hd,fl,σd',Hd',s,hr,e,q⟩:=zz
 obtain⟨⟨x,H1⟩,e1,e⟩:=Zo e
 refine⟨ι,σd,Hd,x,H1,s,hr,e1,fun H' ι' l h=>?_⟩
 cases x with
 | true =>
  rw[if_pos rfl]
  exact⟨ι',σd,H1,fl,σd',Hd',s.mono l,h,by simpa using e,fun σ2 H2 ι2 l2 h2 s2=>q σ2 H2 ι2 (l.trans l2) h2 s2⟩
 | false =>
  rw[if_neg (by simp)]
  exact⟨ι',σd,H1,fl,σd',Hd',s.mono l,h,by simpa using e,fun σ2 H2 ι2 l2 h2 s2=>q σ2 H2 ι2 (l.trans l2) h2 s2⟩
nonrec def Zbe (i:Nat) (f:EF):SF:=fun σ H=>(f σ H).map fun p=>(.nx,σ.set i (some p.1),p.2)
theorem Za2 {i:Nat} {x:Str} {f:EF} {pos':Pos} (hN:X.N.Nodup) (hi:X.N[i]? = some x) (hx:Loc X.env.scope x) (he:PEf X e f) (hs:Ucj e (some (.Name x pos')) pos.line X.env=pure false:=by rfl) (hf:X.fn x=true\/X.env.scope.names.lookup x=some .local:=by first | exact .inl rfl | exact .inr rfl | assumption) :
  PSf X (.Assign [.Name x pos'] e pos) (Zbe i f):=by
 refine PSi (Yd7 hN hi hx he hs hf) fun E σ H zz=>?_
 obtain⟨ι,σd,Hd,fl,σd',Hd',s,hr,e,q⟩:=zz
 obtain⟨⟨x,H1⟩,e1,e⟩:=Zm e
 cases e
 exact⟨ι,σd,Hd,x,H1,s,hr,e1,fun v H' ι' l h r=>q _ H' ι' l h ((s.mono l).set r i)⟩
nonrec def gNm (i:Nat):GF:=fun d σ H=>some (σ.set i (some d),H)
theorem Zbl {i:Nat} {x:Str} (hN:X.N.Nodup) (hi:X.N[i]? = some x) (hx:Loc X.env.scope x) (hf:X.fn x=true\/X.env.scope.names.lookup x=some .local:=by first | exact .inl rfl | exact .inr rfl | assumption):PGf X (.Name x pos) (gNm i):=by
 refine PGi (Zlt hN hi hx hf) fun v σ H Q zz=>?_
 obtain⟨ι,σd,Hd,d,σd',Hd',s,hr,r,e,q⟩:=zz
 cases e
 exact q _ H ι Le.refl hr (s.set r i)
nonrec abbrev Zzx:=D->D->D->HD->Option HD
nonrec def rdSet (K:Xb) (g:Zzx):TSet:=fun o i v H Q=>∃ ι od id vd Hd Hd',HRep K H ι Hd/\Rep K H ι od o/\Rep K H ι id i/\Rep K H ι vd v/\g od id vd Hd=some Hd'/\∀ H' ι',Le K H ι H' ι'->HRep K H' ι' Hd'->Q H'
def Ybr (X:Cx) (g:Zzx):Prop:=PSet X (rdSet X.K g)
nonrec def gSb (fo fi:EF) (g:Zzx):GF:=fun d σ H=>(fo σ H).bind fun o=>(fi σ o.2).bind fun i=>(g o.1 i.1 d i.2).map fun H'=>(σ,H')
theorem Zir {o i:Vw} {fo fi:EF} {g:Zzx} (ho:PEf X o fo) (hi:PEf X i fi) (hs:Ybr X g)
  (ha:∀ v,Ucz (.Subscript o i pos) X.env v=(do
   let ov<-Udd [v] (eval o X.env)
   let iv<-Udd [v,ov] (eval i X.env)
   standAt pos
   Udd [v,ov,iv] (setItem ov iv v)
   release [v,ov,iv] []):=by intro _; rfl):PGf X (.Subscript o i pos) (gSb fo fi g):=by
 refine PGi (Ycw ho hi hs ha) fun v σ H Q zz=>?_
 obtain⟨ι,σd,Hd,d,σd',Hd',s,hr,r,e,q⟩:=zz
 obtain⟨⟨x,H1⟩,e1,e⟩:=Zo e
 obtain⟨⟨y,H2⟩,e2,e⟩:=Zo e
 obtain⟨H3,e3,e⟩:=Zm e
 obtain⟨rfl,rfl⟩:=Wbd.inj e
 exact⟨ι,σd,Hd,x,H1,s,hr,e1,fun v1 H1' ι1 l1 h1 r1=>⟨ι1,σd,H1,y,H2,s.mono l1,h1,e2,fun v2 H2' ι2 l2 h2 r2 =>
  ⟨ι2,x,y,d,H2,H3,h2,r1.mono l2,r2,r.mono (l1.trans l2),e3,fun H' ι' l h=>q σ H' ι' ((l1.trans l2).trans l) h (s.mono ((l1.trans l2).trans l))⟩⟩⟩
nonrec abbrev GFs:=List D->SD->HD->Option (SD×HD)
nonrec def rdGs (K:Xb) (g:GFs):TGs:=fun vs σ H Q=>∃ ι σd Hd ds σd' Hd',SRep K H ι σ σd/\HRep K H ι Hd/\Vj (Rep K H ι) ds vs/\g ds σd Hd=some (σd',Hd') /\
 ∀ σ' H' ι',Le K H ι H' ι'->HRep K H' ι' Hd'->SRep K H' ι' σ' σd'->Q σ' H'
def PGsf (X:Cx) (ts:List Vw) (g:GFs):Prop:=PGs X ts (rdGs X.K g)
nonrec def gNl:GFs:=fun ds σ H=>match ds with
 | []=>some (σ,H)
 | _=>none
nonrec def gCn (g:GF) (h:GFs):GFs:=fun ds σ H=>match ds with
 | d::r=>(g d σ H).bind fun p=>h r p.1 p.2
 | []=>none
theorem PGsi {ts:List Vw} {t t':TGs} (h:PGs X ts t) (i:∀ v σ H Q,t' v σ H Q->t v σ H Q):PGs X ts t':=fun pins s σ H v u Q I r q=>h pins s σ H v u Q I r (i v σ H Q q)
theorem Zpt:PGsf X [] gNl:=by
 refine PGsi Zvs fun vs σ H Q zz=>?_
 obtain⟨ι,σd,Hd,ds,σd',Hd',s,hr,r,e,q⟩:=zz
 cases r with
 | nil=>cases e; exact⟨rfl,q σ H ι Le.refl hr s⟩
 | cons _ _=>cases e
theorem Zg0 {g:GF} {h:GFs} (h1:PGf X e g) (h2:PGsf X es h) (hs:(Uao (e::es) X.env).map (·.2)=Ucz e X.env::(Uao es X.env).map (·.2):=by rfl):PGsf X (e::es) (gCn g h):=by
 refine PGsi (Zlu h1 h2 hs) fun vs σ H Q zz=>?_
 obtain⟨ι,σd,Hd,ds,σd',Hd',s,hr,r,e,q⟩:=zz
 cases r with
 | nil=>cases e
 | cons r rr =>
  obtain⟨⟨σ1,H1⟩,e1,e⟩:=Zo e
  exact⟨_,_,rfl,ι,σd,Hd,_,σ1,H1,s,hr,r,e1,fun σ' H' ι' l h ss=>⟨ι',σ1,H1,_,σd',Hd',ss,h,Prd.mono l rr,e,fun σ2 H2 ι2 l2 h2 s2=>q σ2 H2 ι2 (l.trans l2) h2 s2⟩⟩
nonrec def gTp (n:Nat) (g:GFs):GF:=fun d σ H=>match d with
 | .tup ds=>if ds.length=n then g ds σ H else none
 | _=>none
theorem Zv7 {k n:Nat} {g:GFs} (hc:X.calm=true) (h:PGsf X es g) (hn:(Uao es X.env).length=n:=by rfl) (hst:(Uao es X.env).findIdx? (·.1)=none:=by rfl):PGf X (.Tuple es k pos) (gTp n g):=by
 refine PGi (Zyv hc h hn hst) fun v σ H Q zz=>?_
 obtain⟨ι,σd,Hd,d,σd',Hd',s,hr,r,e,q⟩:=zz
 cases d with
 | tup ds =>
  obtain⟨a,vs,rfl,h1,p⟩:=Zbd.mp r
  simp only[gTp] at e
  split at e
  ·rename_i hl
   exact⟨a,vs,rfl,h1,by rw[<- Prd.len p]; exact hl,ι,σd,Hd,ds,σd',Hd',s,hr,p,e,q⟩
  ·cases e
 | _=>simp[gTp] at e
nonrec def Zsl (f:EF) (g:GF):SF:=fun σ H=>(f σ H).bind fun p=>(g p.1 σ p.2).map fun q=>(.nx,q.1,q.2)
theorem Zgj {tg:Vw} {f:EF} {g:GF} (he:PEf X e f) (hg:PGf X tg g) (hs:swapsWithSole [tg] e pos.line X.env=pure false:=by rfl) (hw:swappedStores [tg] e X.env=pure none:=by rfl)
  (h1:(Uao [tg] X.env).map (·.2)=[Ucz tg X.env]:=by rfl):PSf X (.Assign [tg] e pos) (Zsl f g):=by
 refine PSi (Ye8 he hg hs hw h1) fun E σ H zz=>?_
 obtain⟨ι,σd,Hd,fl,σd',Hd',s,hr,e,q⟩:=zz
 obtain⟨⟨x,H1⟩,e1,e⟩:=Zo e
 obtain⟨⟨σ2,H2⟩,e2,e⟩:=Zm e
 cases e
 exact⟨ι,σd,Hd,x,H1,s,hr,e1,fun v H' ι' l h r=>⟨ι',σd,H1,x,σ2,H2,s.mono l,h,r,e2,fun σ3 H3 ι3 l3 h3 s3=>q σ3 H3 ι3 (l.trans l3) h3 s3⟩⟩
nonrec abbrev Zgy:=List (Nat×DO)
def Zcb (own:Zgy) (H:HD):Prop:=∀ p∈own,H[p.1]? = some p.2
nonrec abbrev ItF:=SD->HD->Option ((List D×Zgy)×HD)
structure ItRep (K:Xb) (J:It) (xs:List D) (own:Zgy) (H0:Hp) (ι0:List Ve):Prop where
 go:∀ i H ι Hd,Le K H0 ι0 H ι->HRep K H ι Hd->Zcb own Hd->i<xs.length->J.go i H
 yld:∀ i H ι Hd d x H',Le K H0 ι0 H ι->HRep K H ι Hd->Zcb own Hd->xs[i]? = some d->J.yld i H x H'->∃ ι',Le K H ι H' ι'/\HRep K H' ι' Hd/\Rep K H' ι' d x
 stop:∀ i H ι Hd,Le K H0 ι0 H ι->HRep K H ι Hd->Zcb own Hd->xs.length<=i->J.stop i H
nonrec def rdI (K:Xb) (f:ItF):TI:=fun σ H R=>∃ ι σd Hd xs own Hd',SRep K H ι σ σd/\HRep K H ι Hd/\f σd Hd=some ((xs,own),Hd')/\∀ J H' ι',Le K H ι H' ι'->HRep K H' ι' Hd'->ItRep K J xs own H' ι'->R J H'
def PIf (X:Cx) (tg iter:Vw) (f:ItF):Prop:=PI X tg iter (rdI X.K f)
theorem PIi {tg iter:Vw} {t t':TI} (h:PI X tg iter t) (i:∀ σ H R,t' σ H R->t σ H R):PI X tg iter t':=fun pins s σ H R I q=>h pins s σ H R I (i σ H R q)
open Classical in
nonrec def Zif (own:Zgy) (g:GF) (body:SF):List D->SF
 | [],σ,H=>if Zcb own H then some (.nx,σ,H) else none
 | x::r,σ,H=>if Zcb own H then (g x σ H).bind fun p=>(body p.1 p.2).bind fun q=>match q.1 with
   | .nx=>Zif own g body r q.2.1 q.2.2
   | .ct=>Zif own g body r q.2.1 q.2.2
   | .bk=>some (.nx,q.2.1,q.2.2)
   | .rt d=>some (.rt d,q.2.1,q.2.2)
  else none
nonrec def Zed (it:ItF) (g:GF) (body:SF):SF:=fun σ H=>(it σ H).bind fun p=>Zif p.1.2 g body p.1.1 σ p.2
theorem Zpb {tg iter:Vw} {body:List Uab} {f:ItF} {g:GF} {b:SF} (hp:Udw (Vm X.prog X.w) X.A X.env X.xe) (hc:X.calm=true) (hi:PIf X tg iter f) (hg:PGf X tg g) (hb:Zp0 X body b)
  (hs:∀ x,Vx iter X.env x=pure x:=by intro _; rfl):PSf X (.For tg iter body [] pos) (Zed f g b):=by
 refine PSi (Yc4 hp hc hi hg hb hs) fun E σ H zz=>?_
 obtain⟨ι,σd,Hd,fl,σf,Hf,s,hr,e,q⟩:=zz
 obtain⟨⟨⟨xs,own⟩,H1⟩,e1,e⟩:=Zo e
 refine⟨ι,σd,Hd,xs,own,H1,s,hr,e1,fun J H0 ι0 l0 h0 it=>?_⟩
 refine⟨fun i m σ H=>m=xs.length - i/\i<=xs.length/\∃ ι σd Hd,Le X.K H0 ι0 H ι/\SRep X.K H ι σ σd/\HRep X.K H ι Hd/\Zif own g b (xs.drop i) σd Hd=some (fl,σf,Hf),
  ⟨xs.length,by simp,Wbm _,ι0,σd,H1,Le.refl,s.mono l0,h0,by simpa using e⟩,?_⟩
 rintro i m σ2 H2 ⟨rfl,hi,ι2,σd2,Hd2,l2,s2,h2,e2⟩
 by_cases hlt:i<xs.length
 ·have ed:xs.drop i=xs[i]::xs.drop (i+1):=War hlt
  rw[ed,Zif] at e2
  split at e2
  ·rename_i ok
   obtain⟨⟨σ3,H3⟩,e3,e2⟩:=Zo e2
   obtain⟨⟨f4,σ4,H4⟩,e4,e2⟩:=Zo e2
   refine .inr ⟨it.go i H2 ι2 Hd2 l2 h2 ok hlt,fun σ' H'=>(xs.length - (i+1)=xs.length - (i+1)/\i+1<=xs.length/\∃ ι σd Hd,Le X.K H0 ι0 H' ι/\SRep X.K H' ι σ' σd/\HRep X.K H' ι Hd/\Zif own g b (xs.drop (i+1)) σd Hd=some (fl,σf,Hf)),
    fun σ' H' p=>⟨_,by omega,p⟩,fun x H' y=>?_⟩
   obtain⟨ι3,l3,h3,r3⟩:=it.yld i H2 ι2 Hd2 xs[i] x H' l2 h2 ok (by simp[hlt]) y
   refine⟨ι3,σd2,Hd2,xs[i],σ3,H3,s2.mono l3,h3,r3,e3,fun σ5 H5 ι5 l5 h5 s5=>?_⟩
   refine⟨ι5,σ3,H3,f4,σ4,H4,s5,h5,e4,fun σ6 H6 ι6 l6 h6 s6=>?_⟩
   have L:Le X.K H0 ι0 H6 ι6:=((l2.trans l3).trans l5).trans l6
   cases f4 with
   | nx=>exact⟨rfl,hlt,ι6,σ4,H4,L,s6,h6,e2⟩
   | ct=>exact⟨rfl,hlt,ι6,σ4,H4,L,s6,h6,e2⟩
   | bk=>cases e2; exact q σ6 H6 ι6 (l0.trans L) h6 s6
   | rt d=>cases e2; exact q σ6 H6 ι6 (l0.trans L) h6 s6
  ·cases e2
 ·have hi':i=xs.length:=by omega
  rw[Wdd (by omega),Zif] at e2
  split at e2
  ·rename_i ok
   have e3:(FD.nx,σd2,Hd2)=(fl,σf,Hf):=Wac.inj e2
   obtain⟨rfl,e4⟩:=Wbd.inj e3
   obtain⟨rfl,rfl⟩:=Wbd.inj e4
   exact .inl ⟨it.stop i H2 ι2 _ l2 h2 ok (by omega),q σ2 H2 ι2 (l0.trans l2) h2 s2⟩
  ·cases e2
end
nonrec def Za4 (n N:Nat) (b:SF):FF:=fun ds H=>if ds.length=n then (b (ds.map some++Xv (N - ds.length) none) H).bind fun r=>match r.1 with
  | .rt d=>some (d,r.2.2)
  | .nx=>some (.non,r.2.2)
  | _=>none
 else none
section
variable {P:Vi} {w:Vu} {K:Xb} {mg:Str->Option Vb} {base:Uaa}
theorem fn_f {x qual:Str} {st:Uab} {f:Ve} {fd:Uaq} {N ps:List Str} {k:Nat} {b:SF} (F:Fun K x qual st f fd) (S:FnScope N ps (Zad st))
  (hb:∀ (cdv:Vb) (A:Vt) (outer:List Env) (s:Vd) (H:Hp) (E:XK),Room k (A.deeper (Uba qual (Zad st) s.heap.objs.size f cdv)) ->
   Zp0 (Zmk CX0 P w K mg base N qual (Zad st) f cdv A outer s H E).nox (Za8 st) b):FnOk P w K mg base CX0 (k+1) f fd ps (spF K ps.length (Za4 ps.length N.length b)):=by
 refine F.ok S (fun vs H Q E h=>?_) (fun cdv A outer s H vs Q E hr h=>?_)
 ·obtain⟨ι,ds,Hd,d,Hd',hl,_,r,_⟩:=h
  rw[<- Prd.len r]; exact hl
 ·obtain⟨ι,ds,Hd,d,Hd',hl,hh,r,e,q⟩:=h
  refine⟨_,hb cdv A outer s H E hr,?_⟩
  unfold Za4 at e
  rw[if_pos hl] at e
  obtain⟨⟨fl,σ1,H1⟩,e1,e⟩:=Zo e
  refine⟨ι,_,Hd,fl,σ1,H1,?_,hh,e1,fun σ' H' ι' l h ss=>?_⟩
  ·refine⟨by simp[L2.start,Prd.len r],fun i d0 h0=>?_⟩
   unfold L2.start
   by_cases hi:i<ds.length
   ·rw[Xh (by simpa using hi),Xr] at h0
    cases ed:ds[i]? with
    | none=>rw[ed] at h0; cases h0
    | some d1 =>
     rw[ed] at h0
     cases h0
     obtain⟨v,hv,rv⟩:=Prd.get r ed
     refine⟨v,?_,rv⟩
     rw[Xh (by rw[Xo,<- Prd.len r]; exact hi),Xr,hv]
     rfl
   ·rw[Xu (by simpa using hi),Wbr] at h0
    split at h0<;>cases h0
  ·cases fl with
   | rt d1=>cases e; exact fun v rv=>q v H' ι' l h rv
   | nx=>cases e; exact q .non H' ι' l h (by simp)
   | bk=>cases e
   | ct=>cases e
end
nonrec def Zib (env:Env):List (Str×Uaw)->List (Str×Ve)->List (Str×Ve)
 | [],cs=>cs
 | (n,k)::r,cs=>Zib env r (if k=.free then (match env.cells.lookup n with | some a=>(n,a)::cs | none=>cs) else cs)
theorem Zhi (env:Env) (scope:Ubj) (h:∀ y∈scope.names,y.2=.free->(env.cells.lookup y.1).isSome=true):closureFor scope env=pure (Zib env scope.names []):=by
 have key:∀ (ns:List (Str×Uaw)) (cs:List (Str×Ve)),(∀ y∈ns,y.2=.free->(env.cells.lookup y.1).isSome=true) ->
   (forIn ns cs fun(x:Str×Uaw) cs=>match x with
    | (name,kind)=>if (kind==.free)=true then (do let a<-cellOf env name; pure (Tag ((name,a)::cs))) else pure (Tag cs):Sem (List (Str×Ve)))=pure (Zib env ns cs):=by
  intro ns
  induction ns with
  | nil=>intro cs _; rfl
  | cons x r ih =>
   intro cs hh
   obtain⟨n,k⟩:=x
   have hr:=ih
   rw[Wek]
   by_cases hk:k=.free
   ·subst hk
    have q:=hh (n,.free) (by simp) rfl
    cases e:env.cells.lookup n with
    | none=>rw[e] at q; cases q
    | some a =>
     have e2:cellOf env n=pure a:=by unfold cellOf; rw[e]
     simp only[beq_self_eq_true,if_true,e2,pure_bind,Zib,e]
     exact ih _ fun y hy=>hh y (Wao _ hy)
   ·have hb:(k==Ue)=false:=by simpa using hk
    simp only[hb,Wbb,if_false,pure_bind,Zib,hk]
    exact ih _ fun y hy=>hh y (Wao _ hy)
 have e:closureFor scope env=((forIn scope.names [] fun(x:Str×Uaw) cs=>match x with
    | (name,kind)=>if (kind==.free)=true then (do let a<-cellOf env name; pure (Tag ((name,a)::cs))) else pure (Tag cs):Sem (List (Str×Ve))) >>= pure):=rfl
 rw[e,bind_pure]
 exact key scope.names [] h
theorem Zgz (env:Env):∀ (ns:List (Str×Uaw)) (cs:List (Str×Ve)),(∀ x c,cs.lookup x=some c->env.cells.lookup x=some c)->∀ x c,(Zib env ns cs).lookup x=some c->env.cells.lookup x=some c
 | [],cs,h=>h
 | (n,k)::r,cs,h=>by
  unfold Zib
  refine Zgz env r _ ?_
  split
  ·cases e:env.cells.lookup n with
   | none=>exact h
   | some a =>
    intro x c q
    dsimp only at q
    rw[Wam] at q
    split at q
    ·rename_i hb
     have hb':x=n:=by simpa using hb
     subst hb'; cases q; exact e
    ·exact h x c q
  ·exact h
theorem Zls (env:Env):∀ (ns:List (Str×Uaw)) (cs:List (Str×Ve)) (x:Str),((cs.lookup x).isSome=true\/((x,Ue)∈ns/\(env.cells.lookup x).isSome=true))->((Zib env ns cs).lookup x).isSome=true
 | [],cs,x,h=>by
  rcases h with h | ⟨h,_⟩
  ·exact h
  ·simp at h
 | (n,k)::r,cs,x,h=>by
  unfold Zib
  refine Zls env r _ x ?_
  by_cases hk:k=.free
  ·rw[if_pos hk]
   cases e:env.cells.lookup n with
   | none =>
    rcases h with h | ⟨h,h2⟩
    ·exact .inl h
    ·rcases Xj.mp h with h | h
     ·cases h; rw[e] at h2; cases h2
     ·exact .inr ⟨h,h2⟩
   | some a =>
    dsimp only
    rw[Wam]
    by_cases hx:x=n
    ·subst hx; simp
    ·have:(x==n)=false:=by simpa using hx
     rw[this]
     rcases h with h | ⟨h,h2⟩
     ·exact .inl h
     ·rcases Xj.mp h with h | h
      ·cases h; exact absurd rfl hx
      ·exact .inr ⟨h,h2⟩
  ·rw[if_neg hk]
   rcases h with h | ⟨h,h2⟩
   ·exact .inl h
   ·rcases Xj.mp h with h | h
    ·cases h; exact absurd rfl hk
    ·exact .inr ⟨h,h2⟩
theorem Zgl {env:Env}:∀ {names:List (Str×Uaw)} {x:Str},names.lookup x=some .free ->
  ((names.map fun(n,k)=>if (k==Ue&&env.scope.kind==.function&&env.kindOf n==some .cell) then (n,Tab) else (n,k)).lookup x=some .cell \/
   (names.map fun(n,k)=>if (k==Ue&&env.scope.kind==.function&&env.kindOf n==some .cell) then (n,Tab) else (n,k)).lookup x=some .free)
 | [],_,h=>by simp at h
 | (n,k)::r,x,h=>by
  have ih:=@Zgl env r x
  show Wew x ((if (k==Ue&&env.scope.kind==.function&&env.kindOf n==some .cell)=true then (n,Tab) else (n,k))::_)=_\/Wew x ((if (k==Ue&&env.scope.kind==.function&&env.kindOf n==some .cell)=true then (n,Tab) else (n,k))::_)=_
  cases hx:x==n with
  | true =>
   simp only[Wam,hx] at h
   cases h
   by_cases hc:(Ue==Ue&&env.scope.kind==.function&&env.kindOf n==some .cell)=true
   ·rw[if_pos hc]; simp only[Wam,hx]; simp
   ·rw[if_neg hc]; simp only[Wam,hx]; simp
  | false =>
   simp only[Wam,hx] at h
   by_cases hc:(k==Ue&&env.scope.kind==.function&&env.kindOf n==some .cell)=true
   ·rw[if_pos hc]; simp only[Wam,hx]; exact ih h
   ·rw[if_neg hc]; simp only[Wam,hx]; exact ih h
theorem Zfh {env:Env}:∀ {names:List (Str×Uaw)} {x:Str},(∀ y∈names,y.2≠.cell) ->
  ((names.map fun(n,k)=>if (k==Ue&&env.scope.kind==.function&&env.kindOf n==some .cell) then (n,Tab) else (n,k)).lookup x=some .cell \/
   (names.map fun(n,k)=>if (k==Ue&&env.scope.kind==.function&&env.kindOf n==some .cell) then (n,Tab) else (n,k)).lookup x=some .free)->(x,Ue)∈names
 | [],_,_,h=>by simp at h
 | (n,k)::r,x,hn,h=>by
  have ih:=@Zfh env r x (fun y hy=>hn y (Wao _ hy))
  have h:Wew x ((if (k==Ue&&env.scope.kind==.function&&env.kindOf n==some .cell)=true then (n,Tab) else (n,k))::_)=_\/Wew x ((if (k==Ue&&env.scope.kind==.function&&env.kindOf n==some .cell)=true then (n,Tab) else (n,k))::_)=_:=h
  cases hx:x==n with
  | true =>
   have hx':x=n:=by simpa using hx
   subst hx'
   by_cases hc:(k==Ue&&env.scope.kind==.function&&env.kindOf x==some .cell)=true
   ·have hk:k=.free:=by
     rw[Wah,Wah] at hc
     simpa using hc.1.1
    subst hk; simp
   ·rw[if_neg hc] at h
    simp only[Wam,hx] at h
    rcases h with h | h
    ·cases h; exact absurd rfl (hn (x,.cell) (by simp))
    ·cases h; simp
  | false =>
   refine Wao _ (ih ?_)
   by_cases hc:(k==Ue&&env.scope.kind==.function&&env.kindOf n==some .cell)=true
   ·rw[if_pos hc] at h; simp only[Wam,hx] at h; exact h
   ·rw[if_neg hc] at h; simp only[Wam,hx] at h; exact h
nonrec def blk (X:Cx) (scope:Ubj) (N:List Str) (cl:List (Str×Ve)) (C:Ve) (s:Vd) (H:Hp) (fp:List Ve) (pn:List (Ve×Obj)):Cx where
 prog:=X.prog
 w:=X.w
 K:=X.K
 mg:=X.mg
 base:=X.base
 A:=X.A
 N:=N
 s₀:=s
 H₀:=H
 env:=Ubr scope cl C X.env
 outer:=X.stack
 stack:=X.stack
 ex:=fp
 fn:=fun _=>false
 calm:=X.calm
 pn:=pn
 xe:=fun _ _=>False
structure BlkOk (X:Cx) (scope:Ubj) (x:Str) (cn:List Str) (ci:List Nat):Prop where
 kind:scope.kind=.function
 nocell:∀ y∈scope.names,y.2≠.cell
 names:∀ y∈scope.names,y.2=.local->scope.names.lookup y.1=some .local
 tgt:scope.names.lookup x=some .local
 free:∀ y∈scope.names,y.2=.free->(X.env.cells.lookup y.1).isSome=true
 nd:(x::cn).Nodup
 len:ci.length=cn.length
 cap:∀ (j:Nat) (y:Str),cn[j]? = some y->∃ i,ci[j]? = some i/\X.N[i]? = some y/\scope.names.lookup y=some .free/\(X.env.kindOf y=some .cell\/X.env.kindOf y=some .free)
nonrec def Zj4 (ci:List Nat) (σ:L2.St):L2.St:=ci.map fun i=>(σ[i]?).join
section
variable {X:Cx} {pins:List (Ve×Obj)} {σ:L2.St} {H:Hp} {s:Vd} {scope:Ubj} {x:Str} {cn:List Str} {ci:List Nat} {fp:List Ve}
theorem Zz8 {h₁:Uaa} {tk:Nat} {o₁:Obj} (I:Inv X pins σ H s) (B:BlkOk X scope x cn ci) (hf:∀ b∈fp,Zlo X pins H b) (hlt:∀ b∈fp,b<s.heap.objs.size)
  (hns:h₁.Ns s.heap.objs.size (fun _=>none)) (hsb:Wad s.heap.objs.size (s.heap.push o₁) h₁) :
  Inv (blk X scope (x::cn) (Zib X.env scope.names []) s.heap.objs.size s H fp (X.pn++pins)) [] (none::Zj4 ci σ) H { s with heap:=h₁,toks:=tk }:=by
 have old:∀ b o,s.heap.get? b=some o->h₁.get? b=some o:=fun b o e=>hsb.extBut b o (Xi (Xe e)) (Xa _ e)
 have sub:=Zgz X.env scope.names [] (by intro x c h; simp at h)
 have has:∀ y,(y,Ue)∈scope.names->∃ c,(Zib X.env scope.names []).lookup y=some c:=fun y hy =>
  Wan.mp (Zls X.env scope.names [] y (.inr ⟨hy,B.free _ hy rfl⟩))
 refine⟨⟨I.ok.mod,B.kind,I.ok.glob,I.ok.blt,Xd _,fun y z c h1 h2=>I.ok.inj y z c (sub y c h1) (sub z c h2),fun y hy=>has y (Zfh B.nocell hy),fun y c hy=>absurd hy (by show ¬ (false=true); simp),I.ok.hd,I.ok.frames,.inl rfl,
   fun b hb=>⟨Xi (hlt b hb),fun y c e=>(hf b hb).2.2.2.2.1 y c (sub y c e)⟩,I.bs,Wag I.ok.bsz I.sz,fun b o e hb=>?_,fun b hb z=>?_,I.stack,I.stkFree⟩,
  rfl,I.bare,Un.kept old,⟨_,hns,fun i y v h1 h2 h3=>?_⟩,fun y c e=>?_,I.hok.fresh (Xd _),fun y c e=>(I.freeC y c (sub y c e)).imp id fun z=>⟨rfl,z.2⟩,fun p hp=>?_,I.hok.kept old,?_⟩
 ·rcases(hf b hb).2.2.2.1 with z | z
  ·exact I.ok.noex b o e z
  ·exact absurd (Xk (Xe e) (Wag I.ok.bsz z)) (Waz _)
 ·exact(Xj.mp (I.stkSub b z)).elim (hf b hb).2.1 (hf b hb).2.2.1
 ·cases i with
  | zero=>simp at h2
  | succ j =>
   have h1':cn[j]? = some y:=by simpa [blk] using h1
   have h2':(Zj4 ci σ)[j]? = some (some v):=by simpa using h2
   obtain⟨i,e1,e2,e3,e4⟩:=B.cap j y h1'
   have e5:σ[i]? = some (some v):=by
    unfold Zj4 at h2'
    rw[Xr,e1] at h2'
    simp at h2'
    cases e:σ[i]? with
    | none=>rw[e] at h2'; cases h2'
    | some o=>rw[e] at h2'; simp at h2'; rw[h2']
   obtain⟨m,hn,hl⟩:=I.loc
   have hv:Vis X.env.scope y:=by
    rcases e4 with e4 | e4
    ·exact .inr (.inl e4)
    ·exact .inr (.inr e4)
   obtain⟨u,r,l⟩:=hl i y v e2 e5 hv
   refine⟨u,r,.inr ⟨Zgl e3,?_⟩⟩
   obtain⟨c,ec⟩:=has y (Uh e3)
   refine⟨c,ec,?_⟩
   rcases l with ⟨l,_⟩ | ⟨_,c',ec',hc⟩
   ·rcases e4 with e4 | e4<;>rw[e4] at l<;>cases l
   ·rw[sub y c ec] at ec'
    cases ec'
    obtain⟨ob,q1,q2⟩:=hc
    exact⟨ob,old _ _ q1,q2⟩
 ·obtain⟨v,ob,q1,q2⟩:=I.cell y c (sub y c e)
  exact⟨v,ob,old _ _ q1,q2⟩
 ·have hp':p∈X.pn++pins:=by simpa [blk] using hp
  obtain⟨q1,q2,q3,q4,q5⟩:=I.pin p hp'
  refine⟨old _ _ q1,q2,Xi (Xe q1),fun z=>?_,q5⟩
  exact(Xj.mp (I.stkSub p.1 z)).elim q3 q4
 ·simp[blk,Zj4,B.len]
def PTs (X:Cx) (ifs:List Vw) (t:TT):Prop :=
 ∀ (pins:List (Ve×Obj)) (s:Vd) (σ:L2.St) (H:Hp) (Q:Bool->Hp->Prop),Inv X pins σ H s->t σ H Q ->
  Vf (Vm X.prog X.w) X.A (forIn ifs true fun c r=>if r=true then do let ok<-isTrue c X.env (eval c X.env); pure (Tag ok) else pure (Tag r)) (TP X pins σ Q) X.xe s
theorem Zzu:PTs X [] (fun _ H Q=>Q true H):=fun _ _ _ H _ I h=>wpAny_tests_nil ⟨H,I,h⟩
theorem Yaa {c:Vw} {t:TT} (h:PT X c t):PTs X [c] t:=fun pins s σ H Q I q=>wpAny_tests_one (h pins s σ H Q I q)
def LcW (J:It) (ci:List Nat) (tt:TT) (te:TE) (σ:L2.St) (Q:VK) (H1:Hp):Prop:=∀ p,H1 p=none->∃ W:Nat->Nat->List V->Hp->Prop,(∃ m,W 0 m [] (upd H1 p (.lst [])))/\∀ i m ys H,W i m ys H ->
 H p=some (.lst ys)/\((J.stop i H/\Q (.ref p) H)\/(J.go i H/\∀ v H',J.yld i H v H'->tt (some v::Zj4 ci σ) H' fun b H2 =>
  if b=true then te (some v::Zj4 ci σ) H2 fun y H3=>H3 p=some (.lst ys)/\ys.length<sizeLine/\∃ m',m'<m/\W (i+1) m' (ys++[y]) (upd H3 p (.lst (ys++[y])))
  else ∃ m',m'<m/\W (i+1) m' ys H2))
structure Gone (X:Cx) (pins:List (Ve×Obj)) (H:Hp) (s:Vd) (C:Ve):Prop where
 ns:∃ m,s.heap.Ns C m
 free:H C=none
 nl:C≠X.env.locals
 up:X.s₀.heap.objs.size<=C
 nc:∀ x c,X.env.cells.lookup x=some c->c≠C
 np:∀ p∈X.pn++pins,p.1≠C
theorem Gone.go {σ:L2.St} {h':Uaa} {C:Ve} (g:Gone X pins H s C) (I:Inv X pins σ H s) (hs:Wad C s.heap h'):Inv X pins σ H { s with heap:=h' } :=
 I.turned (t':=s.toks) (fun b o hb e=>hs.extBut b o hb e) g.free g.nl (.inr g.up) g.nc g.np
theorem Zp4 {elt iter:Vw} {px pos:Pos} {ifs:List Vw} {tt:TT} {te:TE} {Q:VK} {E:Vb->Vd->Prop} {RR:Vb->Ve->Result->Vd->Prop} {it:Ve} {tn:Nat->Uaa->Prop} {J:It}
  (I:Inv X pins σ H s) (hc:X.calm=true) (B:BlkOk X scope x cn ci) (T:Turn X.prog X.w X.K (.Name x px) J fp it tn) (st:tn 0 s.heap) (hf:∀ b∈fp,Zlo X pins H b)
  (ht:∀ cl C s H fp pn,PTs (blk X scope (x::cn) cl C s H fp pn) ifs tt) (he:∀ cl C s H fp pn,PE (blk X scope (x::cn) cl C s H fp pn) elt te)
  (hw:LcW J ci tt te σ Q H) (hRR:∀ p C H' s',Inv X pins σ H' s'->Gone X pins H' s' C->Q (.ref p) H'->RR (.ref p) C (.ok .next) s') :
  Vf (Vm X.prog X.w) X.A (Uef []) (fun acc s₃=>Vf (Vm X.prog X.w) X.A (newFunctionEnv scope X.env.globals (Zib X.env scope.names []) [] X.env.qual none .none (some X.env)) (fun cenv s₄ =>
   Ucl (Vm X.prog X.w) X.A (.compStart (.ListComp elt [⟨.Name x px,iter,ifs,0⟩] scope pos) 0 (.ref it) acc { cenv with scope:=relabel scope X.env }) (RR acc cenv.locals) s₄) E s₃) E s:=by
 have hp0:H s.heap.objs.size=none:=I.hok.fresh (Xd _)
 obtain⟨W,⟨m0,w0⟩,turn⟩:=hw _ hp0
 refine Vs (Ucv B.nocell (by intro y hy; simp at hy) (fun h₁ hns₁ hsb₁=>?_) B.kind)
 dsimp only at hns₁ hsb₁ ⊢
 have I3:Inv X pins σ (upd H s.heap.objs.size (.lst [])) { s with heap:=s.heap.push { cls:=.type "list",dict:=none,data:=.seq ([]:List Vb).toArray } } :=
  I.laid (t':=s.toks) (fun b u e=>Xa _ e) (Xd _) ⟨Wbm _,[],0,.nil,Xf _ rfl⟩
 generalize hH3:s.heap.push { cls:=.type "list",dict:=none,data:=.seq ([]:List Vb).toArray }=hp3 at hns₁ hsb₁ I3 ⊢
 have flt:∀ b∈fp,b<s.heap.objs.size:=fun b hb=>by
  obtain⟨o,e,_⟩:=T.obj 0 _ st b hb
  exact Xe e
 have sz3:hp3.objs.size=s.heap.objs.size+1:=by rw[<- hH3,Way]
 have f3:∀ b∈fp,Zlo X pins (upd H s.heap.objs.size (.lst [])) b:=fun b hb=>⟨by rw[Zah (Xi (flt b hb))]; exact(hf b hb).1,(hf b hb).2⟩
 have old3:∀ b o,s.heap.get? b=some o->hp3.get? b=some o:=fun b o e=>by rw[<- hH3]; exact Xa _ e
 have I4:=Zz8 (s:={ s with heap:=hp3 }) (tk:=s.toks+([]:List (Str×Vb)).length) I3 B f3 (fun b hb=>by show b<hp3.objs.size; rw[sz3]; exact Wcb (flt b hb)) (by simpa using hns₁) hsb₁
 have old4:∀ b o,hp3.get? b=some o->h₁.get? b=some o:=fun b o e=>hsb₁.extBut b o (Xi (Xe e)) (Xa _ e)
 generalize hX':blk X scope (x::cn) (Zib X.env scope.names []) hp3.objs.size { s with heap:=hp3 } (upd H s.heap.objs.size (.lst [])) fp (X.pn++pins)=X' at I4
 have ePr:X'.prog=X.prog:=by rw[<- hX']; rfl
 have eW:X'.w=X.w:=by rw[<- hX']; rfl
 have eK:X'.K=X.K:=by rw[<- hX']; rfl
 have eA:X'.A=X.A:=by rw[<- hX']; rfl
 have eEnv:X'.env=Ubr scope (Zib X.env scope.names []) hp3.objs.size X.env:=by rw[<- hX']; rfl
 have eEx:X'.ex=fp:=by rw[<- hX']; rfl
 have ht':PTs X' ifs tt:=by rw[<- hX']; exact ht _ _ _ _ _ _
 have he':PE X' elt te:=by rw[<- hX']; exact he _ _ _ _ _ _
 have eXe:X'.xe=fun _ _=>False:=by rw[<- hX']; rfl
 have hg':PG X' (.Name x px) (Zlb 0):=by
  rw[<- hX']
  exact Zlt (X:=blk X scope (x::cn) _ _ _ _ _ _) B.nd rfl (.inl (Uad B.tgt)) (.inr (Uad B.tgt))
 -- the iterator's objects, seen from the block
 have stat:∀ {H':Hp},(∀ b∈fp,H' b=none)->∀ b∈fp,Zlo X' [] H' b:=fun {H'} hn b hb=>by
  rw[<- hX']
  refine⟨hn b hb,(by show b≠hp3.objs.size; rw[sz3]; exact Xi (Wcb (flt b hb))),fun z=>(Xj.mp (I3.stkSub b z)).elim (hf b hb).2.1 (hf b hb).2.2.1,.inl hb,fun y c e=>?_,fun p hp=>?_⟩
  ·exact(hf b hb).2.2.2.2.1 y c (Zgz X.env scope.names [] (by intro x c h; simp at h) y c e)
  ·exact(hf b hb).2.2.2.2.2 p (by simpa [blk] using hp)
 have back:∀ {σ':L2.St} {H':Hp} {s':Vd},Inv X' [] σ' H' s'->Inv X pins σ H' s'/\Gone X pins H' s' hp3.objs.size:=fun {σ' H' s'} I5=>by
  have u:Un (frs X.stack) fp (upd H s.heap.objs.size (.lst [])) H' hp3 s'.heap:=by
   have:=I5.base
   rw[<- hX'] at this
   exact this
  have hok:HOk X.prog X.w H' s'.heap:=by have:=I5.hok; rw[ePr,eW] at this; exact this
  have ho:s'.os=s.os:=by have:=I5.os; rw[<- hX'] at this; exact this
  refine⟨I3.call' ho u hok I5.bare fun b hb=>⟨(hf b hb).2.2.2.1,(hf b hb).2.1,(hf b hb).2.2.2.2.1,(hf b hb).2.2.2.2.2⟩,?_,?_,?_,?_,fun y c e z=>?_,fun p hp z=>?_⟩
  ·obtain⟨m,hn,_⟩:=I5.loc
   rw[eEnv] at hn
   exact⟨m,hn⟩
  ·have:=I5.free
   rw[eEnv] at this
   exact this
  ·exact Wbt (I3.lt)
  ·exact I3.sz
  ·obtain⟨v,q⟩:=I3.cell y c e
   exact absurd (Xk q.lt (by rw[z]; exact Xd _)) (Waz _)
  ·have:=Xe (I3.pin p hp).1
   rw[z] at this
   exact Waz _ this
 have loop:Ucl (Vm X.prog X.w) X.A (.compLoop (.ListComp elt [⟨.Name x px,iter,ifs,0⟩] scope pos) 0 (.ref it) (.ref s.heap.objs.size) (Ubr scope (Zib X.env scope.names []) hp3.objs.size X.env))
   (RR (.ref s.heap.objs.size) hp3.objs.size) { s with heap:=h₁,toks:=s.toks+([]:List (Str×Vb)).length }:=by
  refine codeAny_loop rfl (fun n s'=>∃ i o ys H',Inv X' [] (o::Zj4 ci σ) H' s'/\tn i s'.heap/\(∀ b∈fp,H' b=none)/\W i n ys H') (fun n s' hI=>?_) m0
   ⟨0,none,[],_,I4,T.keep _ _ _ st (fun b hb o e=>old4 b o (old3 b o e)),fun b hb=>(f3 b hb).1,w0⟩
  obtain⟨i,o,ys,H',I5,st5,fr5,w5⟩:=hI
  show Vf _ X.A ((compTurn (.ListComp elt [⟨.Name x px,iter,ifs,0⟩] scope pos) 0 (.ref it) (.ref s.heap.objs.size) (Ubr scope (Zib X.env scope.names []) hp3.objs.size X.env)).onRaise (fun x=>do noteFrame x (Ubr scope (Zib X.env scope.names []) hp3.objs.size X.env); theTreesLotGoes x)) _ _ s'
  refine wpAny_noted ?_
  rw[compTurn_list,<- eEnv,<- ePr,<- eW,<- eA]
  refine Uan (E:=fun _ _=>False) ?_ (fun _ _ q=>q) (fun _ _ z=>z.elim)
  obtain⟨hpl,wt⟩:=turn i n ys H' w5
  refine Va (Ubw (Va ?_))
  rcases wt with ⟨stop,q⟩ | ⟨go,step⟩
  ·have z:=T.done X' ePr eW eK (by rw[<- hX']; exact hc) i [] s' _ H' (fun _ _=>False) I5 (stat fr5) st5 stop
   rw[<- ePr,<- eW] at z
   refine thn z fun r s6 zz=>?_
   obtain⟨hr,I6⟩:=zz
   subst hr
   obtain⟨J1,g1⟩:=back I6
   exact Vc (hRR _ _ H' s6 J1 g1 q)
  ·have z:=T.item X' ePr eW eK (by rw[<- hX']; exact hc) i [] s' _ H' (fun _ _=>False) I5 (stat fr5) st5 go
   rw[<- ePr,<- eW] at z
   refine thn z fun r s6 zz=>?_
   obtain⟨u,hr,h6⟩:=zz
   subst hr
   refine Va (thn h6 fun _ s7 zz=>?_)
   obtain⟨v,H7,I7,r7,y7,st7,fr7⟩:=zz
   have I7':=I7.pinned (stat fr7) (T.obj _ _ st7)
   rw[<- eXe]
   refine Va (thn (hg' _ s7 _ H7 v u _ I7' r7 (show Zlb 0 v (o::Zj4 ci σ) H7 (fun σ8 H8=>σ8=some v::Zj4 ci σ/\H8=H7) from⟨rfl,rfl⟩)) fun _ s8 zz=>?_)
   obtain⟨σ8,H8,I8,e8,e8'⟩:=zz
   subst e8 e8'
   refine Va (thn (ht' _ s8 _ _ _ I8 (step v _ y7)) fun b s9 zz=>?_)
   obtain⟨H9,I9,q9⟩:=zz
   have tnK:∀ {σ':L2.St} {H':Hp} {s':Vd},Inv X' (([]:List (Ve×Obj))++Zkh fp s7.heap) σ' H' s'->tn (i+1) s'.heap/\∀ b∈fp,H' b=none:=fun {σ' H' s'} I' =>
    ⟨T.keep _ _ _ st7 fun b hb o e=>(I'.pin (b,o) (Xw _ (Xw _ (Zdo hb e)))).1,fun b hb=>by
     obtain⟨ob,e,d⟩:=T.obj _ _ st7 b hb
     exact(I'.pin (b,ob) (Xw _ (Xw _ (Zdo hb e)))).2.1⟩
   cases b with
   | false =>
    obtain⟨m',hm,w9⟩:=q9
    obtain⟨t9,f9⟩:=tnK I9
    exact Vc ⟨rfl,m',hm,i+1,_,ys,H9,I9.unpinned,t9,f9,w9⟩
   | true =>
    refine Va (Va (thn (he' _ s9 _ _ _ I9 q9) fun yv s10 zz=>?_))
    obtain⟨y,H10,I10,r10,hp10,hz10,m',hm,w10⟩:=zz
    refine Va (thn (Zjb (X:=X') _ s10 _ H10 (.ref s.heap.objs.size) [y] (.ref s.heap.objs.size) [yv] (fun _ H11=>H11=upd H10 s.heap.objs.size (.lst (ys++[y]))) I10 rfl (.cons r10 .nil) ⟨_,ys,y,rfl,rfl,hp10,hz10,rfl⟩) fun _ s11 zz=>?_)
    obtain⟨_,H11,I11,_,e11⟩:=zz
    subst e11
    obtain⟨t11,f11⟩:=tnK I11
    exact Vc (Vc ⟨rfl,m',hm,i+1,_,ys++[y],_,I11.unpinned,t11,f11,w10⟩)
 exact Ucf loop (T.self _ 0 _ _ _ (T.keep _ _ _ st (fun b hb o e=>old4 b o (old3 b o e))) loop)
nonrec def tLC (wi:TI) (ci:List Nat) (tt:TT) (te:TE):TE:=fun σ H Q=>wi σ H fun J H1=>LcW J ci tt te σ Q H1
theorem pe_lc {elt iter:Vw} {px pos:Pos} {ifs:List Vw} {wi:TI} {tt:TT} {te:TE} (hc:X.calm=true) (B:BlkOk X scope x cn ci) (hi:PI X (.Name x px) iter wi)
  (ht:∀ cl C s H fp pn,PTs (blk X scope (x::cn) cl C s H fp pn) ifs tt) (he:∀ cl C s H fp pn,PE (blk X scope (x::cn) cl C s H fp pn) elt te)
  (hs:∀ x,Vx iter X.env x=pure x:=by rintro _; rfl):PE X (.ListComp elt [⟨.Name x px,iter,ifs,0⟩] scope pos) (tLC wi ci tt te):=by
 intro pins s σ H Q I h
 rw[eval_ListComp]
 refine Uau (use:=none) rfl hs (Zhi X.env scope B.free) B.kind B.names ?_
 refine thn (hi pins s σ H _ I h) fun v s1 h1=>thn h1 fun itv s2 h2=>?_
 obtain⟨it,fp,tn,J,H2,e,I2,T,st2,f2,w2⟩:=h2
 subst e
 refine Zp4 (RR:=fun acc C=>compPost (Vm X.prog X.w) X.A X.xe none (EP X pins σ Q) acc C) I2 hc B T st2 f2 ht he w2 fun p C H' s' I' g q=>?_
 obtain⟨m,hn⟩:=g.ns
 exact⟨m,hn,fun h' hs'=>⟨.ref p,H',g.go I' hs',rfl,q⟩⟩
theorem Zw4 {elt iter:Vw} {px py pos spos:Pos} {ifs:List Vw} {wi:TI} {tt:TT} {te:TE} {i:Nat} {y:Str} (hc:X.calm=true) (B:BlkOk X scope x cn ci) (hi:PI X (.Name x px) iter wi)
  (ht:∀ cl C s H fp pn,PTs (blk X scope (x::cn) cl C s H fp pn) ifs tt) (he:∀ cl C s H fp pn,PE (blk X scope (x::cn) cl C s H fp pn) elt te)
  (hN:X.N.Nodup) (hiN:X.N[i]? = some y) (hy:X.env.scope.names.lookup y=some .local)
  (hsw:Ucj (.ListComp elt [⟨.Name x px,iter,ifs,0⟩] scope pos) (some (.Name y py)) spos.line X.env=pure true:=by rfl)
  (hs:∀ x,Vx iter X.env x=pure x:=by rintro _; rfl):PS X (.Assign [.Name y py] (.ListComp elt [⟨.Name x px,iter,ifs,0⟩] scope pos) spos) (tAsg (tLC wi ci tt te) (Zlb i)):=by
 intro pins s σ H E I h
 rw[exec_Assign_Name_used _ _ _ _ hsw]
 refine Va (Ubw (Va ?_))
 show Vf _ X.A (do let _<-comprehension (.ListComp elt [⟨.Name x px,iter,ifs,0⟩] scope pos) scope X.env _ (Uef []) false (eval iter X.env) (some (Ucz (.Name y py) X.env))) _ _ s
 refine Va (Uan (Uau (use:=some (Ucz (.Name y py) X.env)) (Q:=fun _ s'=>SP X pins E .next s') rfl hs (Zhi X.env scope B.free) B.kind B.names ?_) (fun _ s' hq=>Vc (Vc hq)) fun _ _ e=>e)
 refine thn (hi pins s σ H _ I h) fun v s1 h1=>thn h1 fun itv s2 h2=>?_
 obtain⟨it,fp,tn,J,H2,e,I2,T,st2,f2,w2⟩:=h2
 subst e
 refine Zp4 (RR:=fun acc C=>compPost (Vm X.prog X.w) X.A X.xe (some (Ucz (.Name y py) X.env)) (fun _ s'=>SP X pins E .next s') acc C) I2 hc B T st2 f2 ht he w2 fun p C H' s' I' g q=>?_
 show Vf _ X.A (Ucz (.Name y py) X.env (.ref p)) _ _ _
 have hk:X.env.kindOf y=some .local:=hy
 refine wpAny_assign_Name (Zi4 I' hN hiN (.inl hy) (v:=.ref p) (u:=.ref p) rfl (fun s'' I'' ch=>?_) (.inr hy))
 obtain⟨m,hn⟩:=g.ns
 obtain⟨a,hsb,ha⟩:=ch
 have haC:C≠a:=by
  rcases ha with ha | ha
  ·rw[ha]; exact g.nl
  ·exact Uo (g.nc y a ha)
 have hn2:s''.heap.Ns C m:=hn.sameBut hsb haC
 exact⟨m,hn2,fun h' hs'=>⟨_,H',Gone.go ⟨⟨m,hn2⟩,g.free,g.nl,g.up,g.nc,g.np⟩ I'' hs',q⟩⟩
end
nonrec def Zuz (ci:List Nat) (σd:SD):SD:=ci.map fun i=>(σd[i]?).join
open Classical in
nonrec def Zew (own:Zgy) (c0:SD) (tt:TF) (te:EF):List D->HD->Option (List D×HD)
 | [],H=>if Zcb own H then some ([],H) else none
 | x::r,H=>if Zcb own H then (tt (some x::c0) H).bind fun t=>if t.1=true then (te (some x::c0) t.2).bind fun e=>(Zew own c0 tt te r e.2).map fun q=>(e.1::q.1,q.2) else Zew own c0 tt te r t.2 else none
nonrec def eLC (it:ItF) (ci:List Nat) (tt:TF) (te:EF):EF:=fun σ H=>(it σ H).bind fun p=>(Zew p.1.2 (Zuz ci σ) tt te p.1.1 p.2).bind fun q=>mkL q.1 q.2
nonrec def Zsz:TF:=fun _ H=>some (true,H)
def Yco (X:Cx) (ifs:List Vw) (t:TF):Prop:=PTs X ifs (rdT X.K t)
section
variable {X:Cx} {scope:Ubj} {x:Str} {cn:List Str} {ci:List Nat}
theorem Zxs:Yco X [] Zsz:=by
 rintro pins s σ H Q I ⟨ι,σd,Hd,b,Hd',sr,hr,e,q⟩
 cases e
 exact Zzu pins s σ H Q I (q H ι Le.refl hr)
theorem Zw8 {c:Vw} {t:TF} (h:PTf X c t):Yco X [c] t:=Yaa h
theorem SRep.cap {K:Xb} {H:Hp} {ι:List Ve} {σ:L2.St} {σd:SD} {d:D} {v:V} (s:SRep K H ι σ σd) (r:Rep K H ι d v):SRep K H ι (some v::Zj4 ci σ) (some d::Zuz ci σd):=by
 refine⟨by simp[Zj4,Zuz],fun i e h=>?_⟩
 cases i with
 | zero=>simp at h; subst h; exact⟨v,rfl,r⟩
 | succ j =>
  simp only[Wce,Zj4,Zuz,Xr] at h ⊢
  cases ej:ci[j]? with
  | none=>rw[ej] at h; simp at h
  | some i =>
   rw[ej] at h
   simp only[Wel,Wac.injEq] at h ⊢
   cases es:σd[i]? with
   | none=>rw[es] at h; simp at h
   | some o =>
    rw[es] at h
    simp at h
    subst h
    obtain⟨u,h1,h2⟩:=s.var i e es
    exact⟨u,by rw[h1]; rfl,h2⟩
theorem Ye3 {K:Xb} {it:ItF} {tt:TF} {te:EF} {σ:L2.St} {H:Hp} {Q:VK} (h:rdE K (eLC it ci tt te) σ H Q):tLC (rdI K it) ci (rdT K tt) (rdE K te) σ H Q:=by
 obtain⟨ι,σd,Hd,d,Hd',s,hr,e,q⟩:=h
 obtain⟨⟨⟨xs,own⟩,H1⟩,e1,e⟩:=Zo e
 obtain⟨⟨ds,H2⟩,e2,e⟩:=Zo e
 obtain⟨hz,e⟩:=Zlq e
 cases e
 dsimp only at e2 hz
 refine⟨ι,σd,Hd,xs,own,H1,s,hr,e1,fun J H0 ι0 l0 h0 itr p hp=>?_⟩
 have s0:=s.mono l0
 refine⟨fun i m ys H=>m=xs.length - i/\i<=xs.length/\H p=some (.lst ys)/\∃ ι Hd done rest,Le K H0 ι0 H ι/\p∉ι/\HRep K H ι Hd/\Vj (Rep K H ι) done ys/\Zew own (Zuz ci σd) tt te (xs.drop i) Hd=some (rest,H2)/\ds=done++rest,
  ⟨xs.length,by simp,Wbm _,Zas,ι0,H1,[],ds,Le.fresh hp _,h0.fresh hp,h0.tup hp _,.nil,by simpa using e2,by simp⟩,?_⟩
 rintro i m ys H5 ⟨rfl,hi,hpl,ι5,Hd5,done,rest,l5,np5,h5,pd5,e5,eds⟩
 refine⟨hpl,?_⟩
 by_cases hlt:i<xs.length
 ·have ed:xs.drop i=xs[i]::xs.drop (i+1):=War hlt
  rw[ed,Zew] at e5
  split at e5
  ·rename_i ok
   obtain⟨⟨b6,H6⟩,e6,e5⟩:=Zo e5
   refine .inr ⟨itr.go i H5 ι5 Hd5 l5 h5 ok hlt,fun v H' y=>?_⟩
   obtain⟨ι6,l6,h6,r6⟩:=itr.yld i H5 ι5 Hd5 xs[i] v H' l5 h5 ok (by simp[hlt]) y
   obtain⟨hp6,np6⟩:=l6.frame p _ hpl np5
   have s6:=SRep.cap (ci:=ci) (s0.mono (l5.trans l6)) r6
   refine⟨ι6,_,Hd5,b6,H6,s6,h6,e6,fun H7 ι7 l7 h7=>?_⟩
   obtain⟨hp7,np7⟩:=l7.frame p _ hp6 np6
   have L7:=(l5.trans l6).trans l7
   cases b6 with
   | true =>
    rw[if_pos rfl]
    dsimp only at e5
    rw[if_pos rfl] at e5
    obtain⟨⟨d8,H8⟩,e8,e5⟩:=Zo e5
    obtain⟨⟨r9,H9⟩,e9,e5⟩:=Zm e5
    cases e5
    refine⟨ι7,_,H6,d8,H8,s6.mono l7,h7,e8,fun v8 H8' ι8 l8 h8 rr8=>?_⟩
    obtain⟨hp8,np8⟩:=l8.frame p _ hp7 np7
    have ly:ys.length<sizeLine:=by
     rw[<- Prd.len pd5]
     rw[eds] at hz
     simp at hz
     omega
    have w8:Lw K H8' ι8 (upd H8' p (.lst (ys++[v8]))) ι8:=Lw.side hp8 _
    refine⟨hp8,ly,xs.length - (i+1),by omega,rfl,hlt,Zas,ι8,H8,done++[d8],r9,(L7.trans l8).side hp hp8 _,np8,h8.keep w8 (fun a ha=>Zah fun z=>by subst z; exact np8 ha),?_,e9,by rw[eds]; simp⟩
    exact Prd.append (Prd.monoW w8 (Prd.mono ((l6.trans l7).trans l8) pd5)) (.cons (Rep.monoW w8 rr8) .nil)
   | false =>
    rw[if_neg (by simp)]
    dsimp only at e5
    rw[if_neg (by simp)] at e5
    exact⟨xs.length - (i+1),by omega,rfl,hlt,hp7,ι7,H6,done,rest,L7,np7,h7,Prd.mono (l6.trans l7) pd5,e5,eds⟩
  ·cases e5
 ·rw[Wdd (by omega),Zew] at e5
  split at e5
  ·rename_i ok
   have e6:(([]:List D),Hd5)=(rest,H2):=Wac.inj e5
   obtain⟨rfl,rfl⟩:=Wbd.inj e6
   refine .inl ⟨itr.stop i H5 ι5 _ l5 h5 ok (by omega),?_⟩
   have w5:Lw K H5 ι5 H5 (ι5++[p]):=⟨fun _ _ z=>z,fun _ _ z=>z,⟨[p],rfl⟩,fun _ _ _ z=>z⟩
   have L:=l0.trans l5
   simp at eds
   subst eds
   refine q _ H5 (ι5++[p]) ⟨L.toLw.trans w5,fun a o ha na=>?_⟩ (h5.add np5 ⟨ys,hpl,Prd.monoW w5 pd5⟩) (Za1.mpr ⟨p,rfl,by rw[<- h5.len]; simp⟩)
   obtain⟨q1,q2⟩:=L.frame a o ha na
   refine⟨q1,?_⟩
   have:a≠p:=fun z=>by
    subst z
    have:=(l0.frame a o ha na).1
    rw[hp] at this; cases this
   simp[q2,this]
  ·cases e5
theorem Zgc {elt iter:Vw} {px pos:Pos} {ifs:List Vw} {it:ItF} {tt:TF} {te:EF} (hc:X.calm=true) (B:BlkOk X scope x cn ci) (hi:PIf X (.Name x px) iter it)
  (ht:∀ cl C s H fp pn,Yco (blk X scope (x::cn) cl C s H fp pn) ifs tt) (he:∀ cl C s H fp pn,PEf (blk X scope (x::cn) cl C s H fp pn) elt te)
  (hs:∀ x,Vx iter X.env x=pure x:=by rintro _; rfl):PEf X (.ListComp elt [⟨.Name x px,iter,ifs,0⟩] scope pos) (eLC it ci tt te) :=
 PEi (pe_lc (tt:=rdT X.K tt) (te:=rdE X.K te) hc B hi ht he hs) fun _ _ _ h=>Ye3 h
theorem Zc5 {elt iter:Vw} {px py pos spos:Pos} {ifs:List Vw} {it:ItF} {tt:TF} {te:EF} {i:Nat} {y:Str} (hc:X.calm=true) (B:BlkOk X scope x cn ci) (hi:PIf X (.Name x px) iter it)
  (ht:∀ cl C s H fp pn,Yco (blk X scope (x::cn) cl C s H fp pn) ifs tt) (he:∀ cl C s H fp pn,PEf (blk X scope (x::cn) cl C s H fp pn) elt te)
  (hN:X.N.Nodup) (hiN:X.N[i]? = some y) (hy:X.env.scope.names.lookup y=some .local)
  (hsw:Ucj (.ListComp elt [⟨.Name x px,iter,ifs,0⟩] scope pos) (some (.Name y py)) spos.line X.env=pure true:=by rfl)
  (hs:∀ x,Vx iter X.env x=pure x:=by rintro _; rfl):PSf X (.Assign [.Name y py] (.ListComp elt [⟨.Name x px,iter,ifs,0⟩] scope pos) spos) (Zbe i (eLC it ci tt te)):=by
 refine PSi (Zw4 (tt:=rdT X.K tt) (te:=rdE X.K te) hc B hi ht he hN hiN hy hsw hs) fun E σ H zz=>?_
 obtain⟨ι,σd,Hd,fl,σd',Hd',s,hr,e,q⟩:=zz
 obtain⟨⟨x,H1⟩,e1,e⟩:=Zm e
 cases e
 exact Ye3 ⟨ι,σd,Hd,x,H1,s,hr,e1,fun v H' ι' l h r=>q _ H' ι' l h ((s.mono l).set r i)⟩
end
theorem Ya7:fillsNumberSlot (.type "tuple") "mul" = pure false :=
 PySem.fillsNumberSlot_seq (id := "tuple.__mul__") (r:=some (.builtin "tuple.__rmul__")) Taj.lookup (by decide +kernel) F.slot_tuple_rmul.lookup (by decide +kernel)
theorem repT:seqRepeat? (.type "tuple")=pure (some (.builtin "tuple.__mul__")):=by
 unfold seqRepeat?
 rw[Tcm (T := "tuple") (name := "__mul__") (id := "tuple.__mul__") Taj.lookup (by decide +kernel),Tcm (T := "tuple") (name := "__rmul__") (id := "tuple.__rmul__") F.slot_tuple_rmul.lookup (by decide +kernel)]
 rfl
section
variable {dd:Option Ve} {sl:Array (Option Vb)}
theorem rmulT (a:Int) (t:Tok) (l:Ve) (items:Array Vb) (n:Nat) :
  Meets (Builtin.«int.__rmul__» ⟨[.int a t,.ref l],[]⟩) (fun _ R s=>s.heap.get? l=some { cls:=.type "tuple",dict:=dd,data:=.seq items n,slots:=sl }/\R (.ok (.ret Value.notImplemented)) s) :=
 .of_wp fun prog w A R s h=>by obtain⟨hp,g,d,tk,os⟩:=s; obtain⟨hl,h⟩:=h; wp_walk; exact⟨_,rfl,h⟩
theorem Zui (l:Ve) (items:Array Vb) (n:Nat) (x:Int) (u:Tok) (h1:(decide (x < -(2 ^ 63))||decide (x ≥ 2 ^ 63))=false) (h2:(items.isEmpty||x==1)=true) :
  Meets (Builtin.«tuple.__mul__» ⟨[.ref l,.int x u],[]⟩) (fun _ R s=>s.heap.get? l=some { cls:=.type "tuple",dict:=dd,data:=.seq items n,slots:=sl }/\R (.ok (.ret (.ref l))) s) :=
 .of_wp fun prog w A R s h=>by
  obtain⟨hp,g,d,tk,os⟩:=s; obtain⟨hl,h⟩:=h
  have f1:=Tbm
  wp_walk
  simp only[h1,Wbb,if_false]
  wp_walk using Vr hl
  simp only[h2,if_true]
  wp_walk using Vr hl
  exact⟨_,rfl,h⟩
theorem Zs8 (l:Ve) (items:Array Vb) (n:Nat) (x:Int) (u:Tok) (h1:(decide (x < -(2 ^ 63))||decide (x ≥ 2 ^ 63))=false) (h2:(items.isEmpty||x==1)=false) (h3:(decide (x<=0)||items.isEmpty)=true) :
  Meets (Builtin.«tuple.__mul__» ⟨[.ref l,.int x u],[]⟩) (fun _ R s=>s.heap.get? l=some { cls:=.type "tuple",dict:=dd,data:=.seq items n,slots:=sl }/\R (.ok (.ret (.ref s.heap.objs.size))) { s with heap:=s.heap.push { cls:=Tbx "tuple",data:=Data.seq #[] } }) :=
 .of_wp fun prog w A R s h=>by
  obtain⟨hp,g,d,tk,os⟩:=s; obtain⟨hl,h⟩:=h
  have f1:=Tbm
  wp_walk
  simp only[h1,Wbb,if_false]
  wp_walk using Vr hl
  try simp only[h2,h3,Wbb,if_false,if_true]
  try (wp_walk using Vr hl)
  exact⟨_,rfl,h⟩
theorem Zxm (l:Ve) (items:Array Vb) (n:Nat) (x:Int) (u:Tok) (h1:(decide (x < -(2 ^ 63))||decide (x ≥ 2 ^ 63))=false) (h2:(items.isEmpty||x==1)=false) (h3:(decide (x<=0)||items.isEmpty)=false) (h4:¬ (items.size*x:Int) > (2 ^ 63 - 1) / 8) (h5:Tbh (items.size*x)=false)
  (hs:(Wea (fun x1 x2=>x1++x2) #[] (Xv x.toNat items)).size<=sizeLine) :
  Meets (Builtin.«tuple.__mul__» ⟨[.ref l,.int x u],[]⟩) (fun _ R s=>s.heap.get? l=some { cls:=.type "tuple",dict:=dd,data:=.seq items n,slots:=sl }/\R (.ok (.ret (.ref s.heap.objs.size))) { s with heap:=s.heap.push { cls:=Tbx "tuple",data:=Data.seq (Wea (fun x1 x2=>x1++x2) #[] (Xv x.toNat items)) } }) :=
 .of_wp fun prog w A R s h=>by
  obtain⟨hp,g,d,tk,os⟩:=s; obtain⟨hl,h⟩:=h
  have f1:=Tbm
  wp_walk
  simp only[h1,Wbb,if_false]
  wp_walk using Vr hl
  simp only[h2,h3,h5,Wbb,if_false,if_neg h4]
  wp_walk using Vr hl
  exact⟨_,rfl,h⟩
end
theorem Zko (its:List Vb) (m:Nat):Wea (fun x1 x2=>x1++x2) #[] (Xv m its.toArray)=(Xv m its).flatten.toArray:=by
 have:=Zjc its m []
 rw[Wcz] at this
 exact this
section
variable {prog:Vi} {w:Vu} {A:Vt} {E:Vb->Vd->Prop} {s:Vd}
theorem Ya6 {l:Ve} {its:List Vb} {k:Int} {t:Tok} {Q:Vb->Vd->Prop} (p:Uee s.heap l its.toArray) (h1 : -(2 ^ 63)<=k) (h2:k<2 ^ 63) (hz:its.length*k.toNat<=sizeLine)
  (qs:(its=[]\/k=1)->Q (.ref l) s) (qn:its≠[]->k≠1->Q (.ref s.heap.objs.size) { s with heap:=s.heap.push { cls:=.type "tuple",data:=.seq (Xv k.toNat its).flatten.toArray } }) :
  Vf (Vm prog w) A (Vy .Mult (.ref l) (.int k t)) Q E s:=by
 obtain⟨o,e,hc,n,hd⟩:=p
 obtain⟨c,dd,da,sl⟩:=o
 have hc':c=.type "tuple" := hc
 have hd':da=.seq its.toArray n:=hd
 subst hc' hd'
 have b1:(decide (k < -(2 ^ 63))||decide (k ≥ 2 ^ 63))=false:=by simp; omega
 refine Ubs (T := "tuple") (U := "int") (by decide) ⟨_,e,rfl⟩ (fun s'=>Uct s' k t) Ya7 F.fills_int_mul Taz repT F.slot_int_index.lookup
  (Ubk Taz (Uct s k t) F.entry_int_rmul (Tci _ _) (rmulT k t l its.toArray n) ⟨e,rfl,⟨_,e,rfl⟩,?_⟩)
 by_cases hs:its=[]\/k=1
 ·exact Ubk Taj ⟨_,e,rfl⟩ Tbl (Tbj _ _) (Zui l its.toArray n k t b1 (by rcases hs with h | h<;>simp[h])) ⟨e,qs hs⟩
 ·have hne:its≠[]:=fun h=>hs (.inl h)
  have hk:k≠1:=fun h=>hs (.inr h)
  have b2:(its.toArray.isEmpty||k==1)=false:=by cases its<;>simp_all
  have new:=qn hne hk
  by_cases h0:k<=0
  ·have z:k.toNat=0:=by omega
   rw[z] at new
   exact Ubk Taj ⟨_,e,rfl⟩ Tbl (Tbj _ _) (Zs8 l its.toArray n k t b1 b2 (by simp[h0])) ⟨e,new⟩
  ·have sz:sizeLine=16777216:=Uz
   have hm:(its.toArray.size:Int)*k<=16777216:=by
    have e1:k=(k.toNat:Int):=by omega
    rw[Xp,e1,<- Int.natCast_mul]
    omega
   have b3:(decide (k<=0)||its.toArray.isEmpty)=false:=by cases its<;>simp_all
   refine Ubk Taj ⟨_,e,rfl⟩ Tbl (Tbj _ _) (Zxm l its.toArray n k t b1 b2 b3 (by omega) (by simp only[Tbh,decide_eq_false_iff_not,sz]; omega) ?_) ⟨e,?_⟩
   ·rw[Zko,Xp,Zpi,Wfm]; exact hz
   ·rw[Zko]; exact new
end
variable {X:Cx}
nonrec def rRepT (K:Xb):R2:=fun x y H Q=>∃ l k xs,x=.ref l/\y=.int k/\SqT K H l xs /\ -(2 ^ 63)<=k/\k<2 ^ 63/\xs.length*k.toNat<=sizeLine/\((xs=[]\/k=1)->Q (.ref l) H) /\
 (xs≠[]->k≠1->∀ p,H p=none->Q (.ref p) (upd H p (.tup (Xv k.toNat xs).flatten)))
theorem Zzz:OpR X (Vy .Mult) (rRepT X.K):=by
 intro pins s σ H x y v u Q I rx ry h
 obtain⟨l,k,xs,rfl,rfl,ha,h1,h2,hz,q1,q2⟩:=h
 cases rx
 obtain⟨t,rfl⟩:=ry
 obtain⟨its,r1,p1,_⟩:=I.tuple ha
 refine Ya6 p1 h1 h2 (by rw[<- r1.length]; exact hz) (fun z=>⟨.ref l,H,I,rfl,q1 (z.imp r1.nil_iff.mp id)⟩) (fun z zk=>?_)
 refine⟨.ref s.heap.objs.size,_,I.laid (t':=s.toks) (o:=.tup (Xv k.toNat xs).flatten) (fun b ob q=>Xa _ q) (Xd _) ?_,rfl,q2 (fun w=>z (r1.nil_iff.mpr w)) zk _ (I.hok.fresh (Xd _))⟩
 exact⟨by rw[Zpi,Wfm]; exact hz,_,r1.rep k.toNat,Zmc.new _ _⟩
section
variable {X:Cx}
nonrec def iiD (C:Int->Int->Prop) [∀ i j,Decidable (C i j)] (g:Int->Int->D):F2:=fun x y H=>match x,y with
 | .int i,.int j=>if C i j then some (g i j,H) else none
 | _,_=>none
theorem Zp8 {f:Vb->Vb->Sem Vb} {C:Int->Int->Prop} [∀ i j,Decidable (C i j)] {g:Int->Int->Int} (h:OpR X f (rI C fun i j=>.int (g i j))):OpF X f (iiD C fun i j=>.int (g i j)):=by
 refine OpRi h fun x y H Q zz=>?_
 obtain⟨ι,dx,dy,Hd,d,Hd',hr,r1,r2,e,q⟩:=zz
 cases dx<;>cases dy<;>simp only[iiD] at e<;>try cases e
 rename_i i j
 split at e
 ·rename_i hc
  cases e
  simp at r1 r2
  exact⟨i,j,r1,r2,hc,q _ H ι Le.refl hr (by simp)⟩
 ·cases e
def CT (_ _:Int):Prop:=True
instance:∀ i j,Decidable (CT i j):=fun _ _=>instDecidableTrue
theorem Ydn {f:Vb->Vb->Sem Vb} {g:Int->Int->V} (h:OpR X f (rI0 g)):OpR X f (rI CT g):=OpRi h fun x y H Q ⟨i,j,e1,e2,_,q⟩=>⟨i,j,e1,e2,q⟩
theorem Zql {f:Vb->Vb->Sem Vb} {g:Int->Int->Bool} (h:OpR X f (rI0 fun i j=>.bl (g i j))):OpF X f (iiD CT fun i j=>.bl (g i j)):=by
 refine OpRi h fun x y H Q zz=>?_
 obtain⟨ι,dx,dy,Hd,d,Hd',hr,r1,r2,e,q⟩:=zz
 cases dx<;>cases dy<;>simp only[iiD] at e<;>try cases e
 rename_i i j
 simp at r1 r2
 exact⟨i,j,r1,r2,q _ H ι Le.refl hr (by simp)⟩
instance (i j:Int):Decidable (Yck i j):=by unfold Yck; exact inferInstance
instance (i j:Int):Decidable (Zzm i j):=by unfold Zzm; exact inferInstance
instance (i j:Int):Decidable (Yce i j):=by unfold Yce; exact inferInstance
def Ycp (_ j:Int):Prop:=0<j
instance (i j:Int):Decidable (Ycp i j):=by unfold Ycp; exact inferInstance
nonrec def Zlh:F2:=iiD CT fun i j=>.int (i - j)
nonrec def Zl2:F2:=iiD Yck fun i j=>.int (i / j)
nonrec def Zfc:F2:=iiD Ycp fun i j=>.int (i % j)
nonrec def Yb7:F2:=iiD Yce fun i j=>.int (i ^ j.toNat)
nonrec def ltD:F2:=iiD CT fun i j=>.bl (decide (i<j))
nonrec def leD:F2:=iiD CT fun i j=>.bl (decide (i<=j))
nonrec def gtD:F2:=iiD CT fun i j=>.bl (decide (j<i))
nonrec def geD:F2:=iiD CT fun i j=>.bl (decide (j<=i))
theorem Zgp:OpF X (Vy .Sub) Zlh:=Zp8 (Ydn Ycb)
theorem Zf0:OpF X (Vy .FloorDiv) Zl2:=Zp8 Zz2
theorem Zgk:OpF X (Vy .Mod) Zfc:=Zp8 (C:=Ycp) Ycd
theorem Zox:OpF X (Vy .Pow) Yb7:=Zp8 Yc1
theorem Zkw:OpF X (Vq .Lt) ltD:=Zql op_lt
theorem Znh:OpF X (Vq .LtE) leD:=Zql op_le
theorem Ziv:OpF X (Vq .Gt) gtD:=Zql op_gt
theorem Ycm:OpF X (Vq .GtE) geD:=Zql op_ge
nonrec def Zka:D->HD->Option (D×HD):=fun x H=>match x with
 | .int i=>some (.int (-i),H)
 | _=>none
theorem Zcq:UnF X (unaryOp .USub) Zka:=by
 rintro pins s σ H x v Q I rx ⟨ι,dx,Hd,d,Hd',hr,r1,e,q⟩
 cases dx<;>simp only[Zka] at e<;>try cases e
 simp at r1
 exact Ydl pins s σ H x v Q I rx ⟨_,r1,q _ H ι Le.refl hr (by simp)⟩
theorem Zxz {prog:Vi} {w:Vu} {A:Vt} {E:Vb->Vd->Prop} {s:Vd} {t b:Ve} {ws:List Vb} {Q:Vb->Vd->Prop} (ht:Uee s.heap t #[]) (hb:Uee s.heap b ws.toArray)
  (h1:Q (.ref b) s):Vf (Vm prog w) A (Vy .Add (.ref t) (.ref b)) Q E s:=by
 obtain⟨⟨cls,dd,data,sl⟩,ho,hc,n,hd⟩:=id ht
 obtain⟨⟨cls2,dd2,data2,sl2⟩,ho2,hc2,n2,hd2⟩:=id hb
 simp only at hc hd hc2 hd2
 subst hc hd hc2 hd2
 exact Udr ⟨_,ho,rfl⟩ ⟨_,ho2,rfl⟩ Uca Udj Taq Tao (Tak _ _)
   (tuple_addW0 t b #[] ws.toArray n n2 dd dd2 sl sl2 (by simp)) ⟨ho,ho2,h1⟩
nonrec def Zb6:F2:=fun x y H=>match x,y with
 | .int i,.int j=>some (.int (i+j),H)
 | .str a,.str b=>if a.length+b.length<=sizeLine then some (.str (a++b),H) else none
 | .tup a,.tup b=>mkT (a++b) H
 | .ref n,.ref m=>match H[n]?,H[m]? with
  | some (.lst a),some (.lst b)=>mkL (a++b) H
  | _,_=>none
 | _,_=>none
theorem Za9:OpF X (Vy .Add) Zb6:=by
 rintro pins s σ H x y v u Q I rx ry ⟨ι,dx,dy,Hd,d,Hd',hr,r1,r2,e,q⟩
 cases dx<;>cases dy<;>simp only[Zb6] at e<;>try cases e
 ·simp at r1 r2
  exact Yd6 pins s σ H x y v u Q I rx ry ⟨_,_,r1,r2,q _ H ι Le.refl hr (by simp)⟩
 ·simp at r1 r2
  split at e
  ·rename_i hl
   cases e
   exact Zr9 pins s σ H x y v u Q I rx ry ⟨_,_,r1,r2,hl,q _ H ι Le.refl hr (by simp)⟩
  ·cases e
 ·rename_i as bs
  obtain⟨a,vs,rfl,h1,p1⟩:=Zbd.mp r1
  obtain⟨b,ws,rfl,h2,p2⟩:=Zbd.mp r2
  cases p1 with
  | nil =>
   obtain⟨hl,e⟩:=Zih e
   simp only[Wcz,Wbd.injEq] at e
   obtain⟨rfl,rfl⟩:=e
   cases rx
   cases ry
   obtain⟨its,q1,t1,_⟩:=I.tuple h1
   obtain⟨its2,q2,t2,_⟩:=I.tuple h2
   cases q1
   exact Zxz t1 t2 ⟨.ref b,H,I,rfl,q _ H ι Le.refl hr r2⟩
  | cons p p' =>
   have P:=Prd.append (.cons p p') p2
   obtain⟨hl,e'⟩:=Zih e
   cases p2 with
   | nil =>
    simp only[Wab,Wbd.injEq] at e'
    obtain⟨rfl,rfl⟩:=e'
    refine Zvv pins s σ H _ _ v u Q I rx ry ⟨a,b,_,_,rfl,rfl,h1,h2,by simp,?_,fun _=>q _ H ι Le.refl hr r1,fun z=>absurd rfl z⟩
    have:=Prd.len P
    simp only[Wab] at this hl
    simp only[Wbu]
    omega
   | cons p3 p4 =>
    obtain⟨k1,k2⟩:=Zi6 hr P e q
    refine Zvv pins s σ H _ _ v u Q I rx ry ⟨a,b,_,_,rfl,rfl,h1,h2,by simp,?_,fun z=>absurd z (by simp),fun _=>k2⟩
    rw[<- Xq]; exact k1
 ·rename_i n m
  obtain⟨a,rfl,ha⟩:=Za1.mp r1
  obtain⟨b,rfl,hb⟩:=Za1.mp r2
  split at e
  ·rename_i as bs e1 e2
   obtain⟨vs,h1,p1⟩:=hr.obj n a _ ha e1
   obtain⟨ws,h2,p2⟩:=hr.obj m b _ hb e2
   obtain⟨k1,k2⟩:=Zgm hr (Prd.append p1 p2) e q
   exact Yeq pins s σ H _ _ v u Q I rx ry ⟨a,b,vs,ws,rfl,rfl,h1,h2,by rw[<- Xq]; exact k1,k2⟩
  ·cases e
nonrec def Zqd:F2:=fun x y H=>match x,y with
 | .int i,.int j=>if Zzm i j then some (.int (i*j),H) else none
 | .ref n,.int k=>match H[n]? with
  | some (.lst a)=>if -(2 ^ 63)<=k/\k<2 ^ 63/\a.length*k.toNat<=sizeLine then mkL (Xv k.toNat a).flatten H else none
  | _=>none
 | .tup a,.int k=>if -(2 ^ 63)<=k/\k<2 ^ 63/\a.length*k.toNat<=sizeLine then mkT (Xv k.toNat a).flatten H else none
 | _,_=>none
theorem Zhh:OpF X (Vy .Mult) Zqd:=by
 rintro pins s σ H x y v u Q I rx ry ⟨ι,dx,dy,Hd,d,Hd',hr,r1,r2,e,q⟩
 cases dx<;>cases dy<;>simp only[Zqd] at e<;>try cases e
 ·simp at r1 r2
  split at e
  ·rename_i hc
   cases e
   exact Ye6 pins s σ H x y v u Q I rx ry ⟨_,_,r1,r2,hc,q _ H ι Le.refl hr (by simp)⟩
  ·cases e
 ·rename_i as k
  obtain⟨a,vs,rfl,h1,p1⟩:=Zbd.mp r1
  simp at r2
  split at e
  ·rename_i hc
   have hlen:=Prd.len p1
   obtain⟨k1,k2⟩:=Zi6 hr (Prd.rep p1 k.toNat) e q
   refine Zzz pins s σ H _ _ v u Q I rx ry ⟨a,k,vs,rfl,r2,h1,hc.1,hc.2.1,by rw[<- hlen]; exact hc.2.2,fun z=>?_,fun _ _=>k2⟩
   obtain⟨_,e'⟩:=Zih e
   have hf:(Xv k.toNat as).flatten=as:=by
    rcases z with z | z
    ·have:as=[]:=List.eq_nil_of_length_eq_zero (by rw[hlen,z]; rfl)
     subst this
     simp
    ·subst z
     simp
   rw[hf] at e'
   cases e'
   exact q _ H ι Le.refl hr r1
  ·cases e
 ·rename_i n k
  obtain⟨a,rfl,ha⟩:=Za1.mp r1
  simp at r2
  split at e
  ·rename_i as e1
   obtain⟨vs,h1,p1⟩:=hr.obj n a _ ha e1
   split at e
   ·rename_i hc
    obtain⟨k1,k2⟩:=Zgm hr (Prd.rep p1 _) e q
    exact Yc5 pins s σ H _ _ v u Q I rx ry ⟨a,k,vs,rfl,r2,h1,hc.1,hc.2.1,by rw[<- Prd.len p1]; exact hc.2.2,k2⟩
   ·cases e
  ·cases e
nonrec def Zmh:D->HD->Option (List D)
 | .tup xs,_=>some xs
 | .fl xs,_=>some xs
 | .ref n,H=>match H[n]? with
  | some (.lst xs)=>some xs
  | _=>none
 | _,_=>none
theorem Znr {K:Xb} {H:Hp} {ι:List Ve} {Hd:HD} {d:D} {xs:List D} {v:V} (hr:HRep K H ι Hd) (r:Rep K H ι d v) (e:Zmh d Hd=some xs):∃ p vs,v=.ref p/\(SqL K H p vs\/SqT K H p vs)/\Vj (Rep K H ι) xs vs:=by
 cases d with
 | tup ys=>cases e; obtain⟨a,vs,rfl,h,p⟩:=Zbd.mp r; exact⟨a,vs,rfl,.inr h,p⟩
 | fl ys=>cases e; obtain⟨a,vs,rfl,h,p⟩:=Zhc.mp r; exact⟨a,vs,rfl,.inl h.sq,p⟩
 | ref n =>
  obtain⟨a,rfl,ha⟩:=Za1.mp r
  simp only[Zmh] at e
  split at e
  ·rename_i ys e1
   cases e
   obtain⟨vs,h1,p1⟩:=hr.obj n a _ ha e1
   exact⟨a,vs,rfl,.inl (SqL.of h1),p1⟩
  ·cases e
 | _=>simp[Zmh] at e
theorem Ya4 {α β:Type} {F:α->β->Prop} {xs:List α} {us:List β} {i:Int} {x:α} (r:Vj F xs us) (h:atI xs i=some x):∃ u,atI us i=some u/\F x u:=by
 unfold atI at h ⊢
 rw[<- Prd.len r]
 obtain⟨j,h1,h2⟩:=Zo h
 obtain⟨u,h3,h4⟩:=Prd.get r h2
 exact⟨u,by rw[h1]; exact h3,h4⟩
nonrec def ixD:F2:=fun x y H=>match y with
 | .int i=>(Zmh x H).bind fun xs=>(atI xs i).map fun d=>(d,H)
 | _=>none
theorem ixf:IxF X ixD:=by
 rintro va sl pins s σ H x y v u Q I rx ry ⟨ι,dx,dy,Hd,d,Hd',hr,r1,r2,e,q⟩ hs
 cases dy<;>simp only[ixD] at e<;>try cases e
 rename_i i
 simp at r2
 obtain⟨xs,e1,e⟩:=Zo e
 obtain⟨d',e2,e⟩:=Zm e
 obtain⟨rfl,rfl⟩:=Wbd.inj e
 obtain⟨p,vs,rfl,h,P⟩:=Znr hr r1 e1
 obtain⟨z,hz,rz⟩:=Ya4 P e2
 rcases h with h | h
 ·exact Ybz va sl pins s σ H _ _ v u Q I rx ry ⟨p,vs,i,z,rfl,r2,h,hz,q _ H ι Le.refl hr rz⟩ hs
 ·exact Ycu va sl pins s σ H _ _ v u Q I rx ry ⟨p,vs,i,z,rfl,r2,h,hz,q _ H ι Le.refl hr rz⟩ hs
nonrec def Zod (xs:List D) (lo hi:Option Int):List D:=(xs.drop (HT.sIx xs.length 0 lo)).take (HT.sIx xs.length xs.length hi - HT.sIx xs.length 0 lo)
theorem Zlz {K:Xb} {H:Hp} {ι:List Ve} {xs:List D} {vs:List V} (P:Vj (Rep K H ι) xs vs) (lo hi:Option Int):Vj (Rep K H ι) (Zod xs lo hi) (Zzp vs lo hi):=by
 unfold Zod Zzp
 rw[<- Prd.len P]
 exact Prd.take _ (Prd.drop _ P)
nonrec abbrev OF:=SD->HD->Option (Option Int×HD)
nonrec def rdO (K:Xb) (f:OF):TO:=fun σ H Q=>∃ ι σd Hd o Hd',SRep K H ι σ σd/\HRep K H ι Hd/\f σd Hd=some (o,Hd')/\∀ H' ι',Le K H ι H' ι'->HRep K H' ι' Hd'->Q o H'
def POf (X:Cx) (e:Option Vw) (f:OF):Prop:=PO X e (rdO X.K f)
nonrec def Zge:OF:=fun _ H=>some (none,H)
nonrec def Zfb (f:EF):OF:=fun σ H=>(f σ H).bind fun p=>match p.1 with
 | .int i=>some (some i,p.2)
 | _=>none
theorem Zc1:POf X none Zge:=by
 rintro pins s σ H Q I ⟨ι,σd,Hd,o,Hd',sr,hr,e,q⟩
 cases e
 exact Yam pins s σ H Q I (q H ι Le.refl hr)
theorem Zf3 {e:Vw} {f:EF} (h:PEf X e f):POf X (some e) (Zfb f):=by
 rintro pins s σ H Q I ⟨ι,σd,Hd,o,Hd',sr,hr,e,q⟩
 obtain⟨⟨d,H1⟩,e1,e⟩:=Zo e
 cases d<;>try cases e
 rename_i i
 exact Ybk h pins s σ H Q I ⟨ι,σd,Hd,_,_,sr,hr,e1,fun v H' ι' l h r=>⟨i,by simpa using r,q H' ι' l h⟩⟩
nonrec def slD (x:D) (lo hi:Option Int) (H:HD):Option (D×HD):=match x with
 | .tup xs=>some (.tup (Zod xs lo hi),H)
 | .fl xs=>some (.ref H.length,H++[.lst (Zod xs lo hi)])
 | .ref n=>match H[n]? with
  | some (.lst xs)=>some (.ref H.length,H++[.lst (Zod xs lo hi)])
  | _=>none
 | _=>none
theorem Zgd {prog:Vi} {w:Vu} {A:Vt} {E:Vb->Vd->Prop} {s:Vd} {t sl:Ve} {items:Array Vb} {vl vu:Vb} {lo hi:Option Int} {Q:Vb->Vd->Prop} (ht:Uee s.heap t items) (hs:s.heap.IsSliceOf sl vl vu .none) (pl:Udk vl lo) (pu:Udk vu hi)
  (hw:HT.sIx items.size 0 lo=0/\HT.sIx items.size items.size hi=items.size) (h:Q (.ref t) s):Vf (Vm prog w) A (Udf (.ref t) (.ref sl)) Q E s:=by
 obtain⟨os,hos,hcs,hds⟩:=id hs
 have hTs:s.TypeIs (.ref sl) "slice" := ⟨os,hos,hcs⟩
 obtain⟨ot,hot,hct,nt,hdt⟩:=id ht
 unfold Udf
 try with_reducible refine Uae ?_
 first | refine Va (Vc ?_) | skip
 refine Va (wpAny_sequenceKey ht.typeIs (by decide) ?_)
 refine Va (Vh (name:=Ua "__getitem__") ht.typeIs Uf
  (Vo Uf ht.typeIs entry_tuple_getitem ?_ (args_tuple_getitem _ _)))
 show Vf _ _ (Tbg (.ref t) >>= _) _ _ s
 refine Va (tupleItemsOf_ ht ?_)
 refine Va (Ucn hTs ?_)
 rw[if_pos (by decide)]
 refine Va (HT.sliceApplied_gen hs pl pu ?_)
 show Vf _ _ (if (((HT.sIx items.size 0 lo:Nat):Int)==0&&(1:Int)==1&&(HT.sIx items.size items.size hi - HT.sIx items.size 0 lo)==items.size)=true then _ else _) _ _ s
 rw[if_pos (by rw[hw.1,hw.2]; simp)]
 show Vf _ _ (Tbi (Ux t) >>= _) _ _ s
 unfold Tbi
 refine Va (Va (Ucn ht.typeIs (Vc ?_)))
 rw[if_pos (by decide)]
 exact Va (Ubd (Vc ⟨_,rfl,Vc h⟩))
theorem Zrn {xs:List D} {lo hi:Option Int} (h:HT.sIx xs.length 0 lo=0/\HT.sIx xs.length xs.length hi=xs.length):Zod xs lo hi=xs:=by
 unfold Zod
 rw[h.1,h.2]; simp
nonrec def rdSl (K:Xb):V->Option Int->Option Int->Hp->VK->Prop:=fun x lo hi H Q=>∃ ι dx Hd d Hd',HRep K H ι Hd/\Rep K H ι dx x/\slD dx lo hi Hd=some (d,Hd')/\QE K H ι d Hd' Q
theorem slf:SlR X (rdSl X.K):=by
 rintro pins s σ H x v vl vu lo hi sl Q I rx hs pl pu ⟨ι,dx,Hd,d,Hd',hr,r,e,q⟩
 have lists:∀ {a:Ve} {xs:List D} {vs:List V},x=.ref a->SqL X.K H a vs->Vj (Rep X.K H ι) xs vs->(D.ref Hd.length,Hd++[DO.lst (Zod xs lo hi)])=(d,Hd') ->
   ∃ T id,typeLookup (.type T) "__getitem__" = pure (some (.builtin id))/\s.TypeIs v T/\Vf (Vm X.prog X.w) X.A (Udf v (.ref sl)) (EP X pins σ Q) X.xe s:=fun {a xs vs} ex h P e=>by
  obtain⟨_,_,_,hz⟩:=I.list h
  have hz2:(Zod xs lo hi).length<=sizeLine:=by
   rw[Prd.len (Zlz P lo hi)]
   exact Wag (Ze1 vs lo hi) hz
  obtain⟨k1,k2⟩:=Zgm hr (Zlz P lo hi) (show mkL (Zod xs lo hi) Hd=some (d,Hd') by unfold mkL; rw[if_pos hz2,e]) q
  exact Ya5 pins s σ H x v vl vu lo hi sl Q I rx hs pl pu ⟨a,vs,ex,h,k2⟩
 cases dx with
 | tup xs =>
  obtain⟨a,vs,rfl,h,P⟩:=Zbd.mp r
  simp only[slD,Wac.injEq] at e
  obtain⟨its,rv,ht,hz⟩:=I.tuple h
  have hlen:its.toArray.size=vs.length:=by rw[Xp]; exact rv.length.symm
  by_cases hw:HT.sIx vs.length 0 lo=0/\HT.sIx vs.length vs.length hi=vs.length
  ·cases rx
   refine⟨"tuple",_,Uf.lookup,ht.typeIs,Zgd ht hs pl pu (by rw[hlen]; exact hw) ?_⟩
   rw[Zrn (by rw[Prd.len P]; exact hw)] at e
   obtain⟨rfl,rfl⟩:=Wbd.inj e
   exact⟨.ref a,H,I,rfl,q _ H ι Le.refl hr r⟩
  ·have hz2:(Zod xs lo hi).length<=sizeLine:=by
    rw[Prd.len (Zlz P lo hi)]
    exact Wag (Ze1 vs lo hi) hz
   obtain⟨k1,k2⟩:=Zi6 hr (Zlz P lo hi) (show mkT (Zod xs lo hi) Hd=some (d,Hd') by unfold mkT; rw[if_pos hz2,e]) q
   exact Yex pins s σ H _ v vl vu lo hi sl Q I rx hs pl pu ⟨a,vs,rfl,h,hw,k2⟩
 | fl xs =>
  obtain⟨a,vs,rfl,h,P⟩:=Zhc.mp r
  simp only[slD,Wac.injEq] at e
  exact lists rfl h.sq P e
 | ref n =>
  obtain⟨a,rfl,ha⟩:=Za1.mp r
  simp only[slD] at e
  split at e
  ·rename_i xs e1
   obtain⟨vs,h1,P⟩:=hr.obj n a _ ha e1
   exact lists rfl (SqL.of h1) P (Wac.inj e)
  ·cases e
 | _=>simp[slD] at e
nonrec def eSl (fe:EF) (fl fh:OF):EF:=fun σ H=>(fe σ H).bind fun p=>(fl σ p.2).bind fun l=>(fh σ l.2).bind fun h=>slD p.1 l.1 h.1 h.2
theorem Zb0 {e:Vw} {lo hi:Option Vw} {fe:EF} {fl fh:OF} {pos p2:Pos} (he:PEf X e fe) (hl:POf X lo fl) (hu:POf X hi fh):PEf X (.Subscript e (.Slice lo hi none p2) pos) (eSl fe fl fh):=by
 refine PEi (Zwr slf he hl hu) fun σ H Q zz=>?_
 obtain⟨ι,σd,Hd,d,Hd',s,hr,e,q⟩:=zz
 obtain⟨⟨x,H1⟩,e1,e⟩:=Zo e
 obtain⟨⟨y,H2⟩,e2,e⟩:=Zo e
 obtain⟨⟨z,H3⟩,e3,e⟩:=Zo e
 exact⟨ι,σd,Hd,x,H1,s,hr,e1,fun v1 H1' ι1 l1 h1 r1=>⟨ι1,σd,H1,y,H2,s.mono l1,h1,e2,fun H2' ι2 l2 h2=>⟨ι2,σd,H2,z,H3,s.mono (l1.trans l2),h2,e3,fun H3' ι3 l3 h3 =>
  ⟨ι3,x,H3,d,Hd',h3,r1.mono (l2.trans l3),e,fun v H' ι' l h r=>q v H' ι' (((l1.trans l2).trans l3).trans l) h r⟩⟩⟩⟩
nonrec def Zc7:FF:=fun ds H=>match ds with
 | [.str x]=>if x.length<=sizeLine then some (.int x.length,H) else none
 | [d]=>(Zmh d H).map fun xs=>(.int xs.length,H)
 | _=>none
theorem Zmv {K:Xb} {H:Hp} {ι:List Ve} {d:D} {vs:List V} (P:Vj (Rep K H ι) [d] vs):∃ v,vs=[v]/\Rep K H ι d v:=by
 cases P with
 | cons r t=>cases t; exact⟨_,rfl,r⟩
theorem Ycr {K:Xb} {H:Hp} {ι:List Ve} {d d':D} {vs:List V} (P:Vj (Rep K H ι) [d,d'] vs):∃ v v',vs=[v,v']/\Rep K H ι d v/\Rep K H ι d' v':=by
 cases P with
 | cons r t=>obtain⟨v,rfl,r'⟩:=Zmv t; exact⟨_,_,rfl,r,r'⟩
theorem Zjg:Zid X (.builtin "len") Zc7:=by
 rintro pins s σ H xs us Q I rv ⟨ι,ds,Hd,d,Hd',hr,P,e,q⟩
 unfold Zc7 at e
 split at e
 ·obtain⟨v,rfl,r⟩:=Zmv P
  simp at r
  subst r
  split at e
  ·rename_i hl
   cases e
   exact Znu pins s σ H _ us Q I rv ⟨_,rfl,hl,q _ H ι Le.refl hr (by simp)⟩
  ·cases e
 ·obtain⟨v,rfl,r⟩:=Zmv P
  obtain⟨ys,e1,e⟩:=Zm e
  obtain⟨rfl,rfl⟩:=Wbd.inj e
  obtain⟨p,vs,rfl,h,P2⟩:=Znr hr r e1
  exact Zm6 pins s σ H _ us Q I rv ⟨p,vs,rfl,h,q _ H ι Le.refl hr (by simp[Prd.len P2])⟩
 ·cases e
nonrec def Zr5:FF:=fun ds H=>match ds with
 | [.int i]=>some (.int (if i<0 then -i else i),H)
 | _=>none
theorem Zu7:Zid X (.builtin "abs") Zr5:=by
 rintro pins s σ H xs us Q I rv ⟨ι,ds,Hd,d,Hd',hr,P,e,q⟩
 unfold Zr5 at e
 split at e
 ·obtain⟨v,rfl,r⟩:=Zmv P
  simp at r
  subst r
  cases e
  exact Zw7 pins s σ H _ us Q I rv ⟨_,rfl,q _ H ι Le.refl hr (by simp)⟩
 ·cases e
nonrec def maxD:FF:=fun ds H=>match ds with
 | [.int i,.int j]=>some (.int (if j > i then j else i),H)
 | _=>none
theorem Zve (hc:X.calm=true):Zid X (.builtin "max") maxD:=by
 rintro pins s σ H xs us Q I rv ⟨ι,ds,Hd,d,Hd',hr,P,e,q⟩
 unfold maxD at e
 split at e
 ·obtain⟨v,v',rfl,r,r'⟩:=Ycr P
  simp at r r'
  subst r r'
  cases e
  exact Ztz hc pins s σ H _ us Q I rv ⟨_,_,rfl,q _ H ι Le.refl hr (by simp)⟩
 ·cases e
nonrec def Zrh:FF:=fun ds H=>match ds with
 | [.int i]=>some (.int i,H)
 | [.bl b]=>some (.int (if b then 1 else 0),H)
 | _=>none
theorem Zuh:Zid X (.type "int") Zrh:=by
 rintro pins s σ H xs us Q I rv ⟨ι,ds,Hd,d,Hd',hr,P,e,q⟩
 unfold Zrh at e
 split at e
 ·obtain⟨v,rfl,r⟩:=Zmv P
  simp at r
  subst r
  cases e
  exact Znt pins s σ H _ us Q I rv (.inl ⟨_,rfl,q _ H ι Le.refl hr (by simp)⟩)
 ·obtain⟨v,rfl,r⟩:=Zmv P
  simp at r
  subst r
  cases e
  exact Znt pins s σ H _ us Q I rv (.inr ⟨_,rfl,q _ H ι Le.refl hr (by simp)⟩)
 ·cases e
nonrec def Zo1:FF:=fun ds H=>match ds with
 | [d]=>(Zmh d H).map fun xs=>(.ref H.length,H++[.lst xs])
 | _=>none
theorem Zqe {pins:List (Ve×Obj)} {s:Vd} {σ:L2.St} {H:Hp} {p:Ve} {vs:List V} (I:Inv X pins σ H s) (h:SqL X.K H p vs\/SqT X.K H p vs):vs.length<=sizeLine:=by
 rcases h with h | h
 ·obtain⟨_,_,_,z⟩:=I.list h; exact z
 ·obtain⟨_,_,_,z⟩:=I.tuple h; exact z
theorem Zkv:Zid X (.type "list") Zo1:=by
 rintro pins s σ H xs us Q I rv ⟨ι,ds,Hd,d,Hd',hr,P,e,q⟩
 unfold Zo1 at e
 split at e
 ·obtain⟨v,rfl,r⟩:=Zmv P
  obtain⟨ys,e1,e⟩:=Zm e
  obtain⟨p,vs,rfl,h,P2⟩:=Znr hr r e1
  obtain⟨k1,k2⟩:=Zgm hr P2 (show mkL ys Hd=some (d,Hd') by unfold mkL; rw[if_pos (by rw[Prd.len P2]; exact Zqe I h),e]) q
  exact Zm4 pins s σ H _ us Q I rv ⟨p,vs,rfl,h,k2⟩
 ·cases e
nonrec def Zd0:FF:=fun ds H=>match ds with
 | [d]=>(Zmh d H).map fun xs=>(.tup xs,H)
 | _=>none
theorem Zo6:Zid X (.type "tuple") Zd0:=by
 rintro pins s σ H xs us Q I rv ⟨ι,ds,Hd,d,Hd',hr,P,e,q⟩
 unfold Zd0 at e
 split at e
 ·rename_i d0
  obtain⟨v,rfl,r⟩:=Zmv P
  obtain⟨ys,e1,e⟩:=Zm e
  obtain⟨p,vs,rfl,h,P2⟩:=Znr hr r e1
  obtain⟨k1,k2⟩:=Zi6 hr P2 (show mkT ys Hd=some (d,Hd') by unfold mkT; rw[if_pos (by rw[Prd.len P2]; exact Zqe I h),e]) q
  refine Zlf pins s σ H _ us Q I rv ⟨p,vs,rfl,?_⟩
  rcases h with h | h
  ·exact .inl ⟨h,k2⟩
  ·obtain⟨rfl,rfl⟩:=Wbd.inj e
   exact .inr ⟨h,q _ H ι Le.refl hr (Zbd.mpr ⟨p,vs,rfl,h,P2⟩)⟩
 ·cases e
nonrec def Zbg (x:D) (ds:List D) (H:HD):Option (D×HD):=match x,ds with
 | .ref n,[d]=>match H[n]? with
  | some (.lst xs)=>if xs.length<sizeLine then some (.non,H.set n (.lst (xs++[d]))) else none
  | _=>none
 | _,_=>none
theorem Zdp:MtF X "list.append" Zbg:=by
 rintro pins s σ H x xs v us Q I rx rv ⟨ι,dx,ds,Hd,d,Hd',hr,r1,P,e,q⟩
 unfold Zbg at e
 split at e
 ·rename_i n d1
  obtain⟨a,rfl,ha⟩:=Za1.mp r1
  obtain⟨z,rfl,rz⟩:=Zmv P
  split at e
  ·rename_i ys e1
   split at e
   ·rename_i hl
    cases e
    obtain⟨vs,h1,P1⟩:=hr.obj n a _ ha e1
    refine Zjb pins s σ H _ _ v us Q I rx rv ⟨a,vs,z,rfl,rfl,h1,by rw[<- Prd.len P1]; exact hl,?_⟩
    have L:Le X.K H ι (upd H a (.lst (vs++[z]))) ι:=Le.upd (Xz ha) h1 trivial _
    exact q _ _ ι L (hr.upd ha h1 trivial ⟨_,Zas,Prd.append (Prd.mono L P1) (.cons (rz.mono L) .nil)⟩) (by simp)
   ·cases e
  ·cases e
 ·cases e
end
mutual
noncomputable def toP (H:HD):Nat->D->Option Vz
 | _,.non=>some .none
 | _,.bl b=>some (.bool b)
 | _,.int i=>some (.int i)
 | _,.str x=>some (.str x)
 | _,.ty _=>none
 | n,.tup xs=>(Zvd H n xs).map .tuple
 | n,.fl xs=>(Zvd H n xs).map .list
 | 0,.ref _=>none
 | n+1,.ref k=>match H[k]? with
  | some (.lst xs)=>(Zvd H n xs).map .list
  | _=>none
termination_by n d=>(n,sizeOf d)
noncomputable def Zvd (H:HD):Nat->List D->Option (List Vz)
 | _,[]=>some []
 | n,d::ds=>(toP H n d).bind fun x=>(Zvd H n ds).map fun r=>x::r
termination_by n ds=>(n,sizeOf ds)
end
section
variable {X:Cx} {pins:List (Ve×Obj)} {σ:L2.St} {H:Hp} {s:Vd} {ι:List Ve} {Hd:HD}
mutual
theorem Zdm (I:Inv X pins σ H s) (hr:HRep X.K H ι Hd):∀ (n:Nat) (d:D) {x:Vz} {v:V} {u:Vb},toP Hd n d=some x->Rep X.K H ι d v->Zcg v u->∃ as,Reads s.heap u x as
 | n,.non,x,v,u,e,r,q=>by
  rw[toP] at e; cases e; simp at r; subst r; cases q; exact⟨_,.none⟩
 | n,.bl b,x,v,u,e,r,q=>by
  rw[toP] at e; cases e; simp at r; subst r; cases q; exact⟨_,.bool b⟩
 | n,.int i,x,v,u,e,r,q=>by
  rw[toP] at e; cases e; simp at r; subst r; obtain⟨t,rfl⟩:=q; exact⟨_,.int i t⟩
 | n,.str z,x,v,u,e,r,q=>by
  rw[toP] at e; cases e; simp at r; subst r; obtain⟨t,rfl⟩:=q; exact⟨_,.str z t⟩
 | n,.ty _,x,v,u,e,r,q=>by rw[toP] at e; cases e
 | n,.tup xs,x,v,u,e,r,q=>by
  rw[toP] at e
  obtain⟨ps,e1,rfl⟩:=Zm e
  obtain⟨a,vs,rfl,h,P⟩:=Zbd.mp r
  cases q
  obtain⟨its,rv,⟨o,ho,hc,m,hd⟩,hz⟩:=I.tuple h
  obtain⟨as,ra⟩:=Zev I hr n xs e1 P rv
  exact⟨_,.tuple ho hc hd (by simpa using ra)⟩
 | n,.fl xs,x,v,u,e,r,q=>by
  rw[toP] at e
  obtain⟨ps,e1,rfl⟩:=Zm e
  obtain⟨a,vs,rfl,h,P⟩:=Zhc.mp r
  cases q
  obtain⟨its,rv,pl,hz⟩:=I.list h.sq
  obtain⟨o,ho,hc,m,hd⟩:=pl.isList
  obtain⟨as,ra⟩:=Zev I hr n xs e1 P rv
  exact⟨_,.list ho hc hd (by simpa using ra)⟩
 | 0,.ref k,x,v,u,e,r,q=>by rw[toP] at e; cases e
 | n+1,.ref k,x,v,u,e,r,q=>by
  rw[toP] at e
  split at e
  ·rename_i xs eo
   obtain⟨ps,e1,rfl⟩:=Zm e
   obtain⟨a,rfl,ha⟩:=Za1.mp r
   cases q
   obtain⟨vs,h1,P⟩:=hr.obj k a _ ha eo
   obtain⟨its,rv,pl,hz⟩:=I.list (SqL.of h1)
   obtain⟨o,ho,hc,m,hd⟩:=pl.isList
   obtain⟨as,ra⟩:=Zev I hr n xs e1 P rv
   exact⟨_,.list ho hc hd (by simpa using ra)⟩
  ·cases e
termination_by n d=>(n,sizeOf d)
theorem Zev (I:Inv X pins σ H s) (hr:HRep X.K H ι Hd):∀ (n:Nat) (ds:List D) {xs:List Vz} {vs:List V} {us:List Vb},Zvd Hd n ds=some xs->Vj (Rep X.K H ι) ds vs->Zb7 vs us->∃ as,ReadsAll s.heap us xs as
 | n,[],xs,vs,us,e,P,q=>by
  rw[Zvd] at e; cases e; cases P; cases q; exact⟨_,.nil⟩
 | n,d::ds,xs,vs,us,e,P,q=>by
  rw[Zvd] at e
  obtain⟨x,e1,e⟩:=Zo e
  obtain⟨r,e2,rfl⟩:=Zm e
  cases P with
  | cons p P =>
   cases q with
   | cons q Q =>
    obtain⟨as,ra⟩:=Zdm I hr n d e1 p q
    obtain⟨bs,rb⟩:=Zev I hr n ds e2 P Q
    exact⟨_,.cons ra rb⟩
termination_by n ds=>(n,sizeOf ds)
end
nonrec def okP (x:Vz):Bool:=x.canLay0&&decide (x.depth<=30)
nonrec def dat (d:D) (H:HD):Option Vz:=(toP H 30 d).bind fun x=>if okP x=true then some x else none
theorem Zd5 {d:D} {x:Vz} (e:dat d Hd=some x):toP Hd 30 d=some x/\x.canLay0=true/\x.depth<=30:=by
 obtain⟨y,e1,e⟩:=Zo e
 split at e
 ·rename_i h
  cases e
  rw[okP,Wah,decide_eq_true_eq] at h
  exact⟨e1,h⟩
 ·cases e
nonrec def Zrm:D->D->Option (Str×Str)
 | .str a,.str b=>some (a,b)
 | _,_=>none
theorem Zno {x y:D} {a b:Str} (h:Zrm x y=some (a,b)):x=.str a/\y=.str b:=by
 unfold Zrm at h
 split at h
 ·cases h; exact⟨rfl,rfl⟩
 ·cases h
nonrec def eqD:F2:=fun x y H=>match Zrm x y with
 | some (a,b)=>some (.bl (a==b),H)
 | none=>(dat x H).bind fun p=>(dat y H).map fun q=>(.bl (Ub p q),H)
nonrec def neD:F2:=fun x y H=>match Zrm x y with
 | some (a,b)=>some (.bl (a != b),H)
 | none=>(dat x H).bind fun p=>(dat y H).map fun q=>(.bl (!Ub p q),H)
theorem Zb3 (hu:X.A.units+64<cLine):OpF X (Vq .Eq) eqD:=by
 rintro pins s σ H x y v u Q I rx ry ⟨ι,dx,dy,Hd,d,Hd',hr,r1,r2,e,q⟩
 unfold eqD at e
 split at e
 ·rename_i a b es
  obtain⟨rfl,rfl⟩:=Zno es
  obtain⟨rfl,rfl⟩:=Wbd.inj (Wac.inj e)
  simp at r1 r2
  subst r1 r2
  obtain⟨t1,rfl⟩:=rx
  obtain⟨t2,rfl⟩:=ry
  exact PyProof.Rows.eq_str ⟨.bl _,H,I,rfl,q _ H ι Le.refl hr (by simp)⟩
 ·obtain⟨p,e1,e⟩:=Zo e
  obtain⟨p2,e2,e⟩:=Zm e
  obtain⟨rfl,rfl⟩:=Wbd.inj e
  obtain⟨t1,c1,d1⟩:=Zd5 e1
  obtain⟨t2,c2,d2⟩:=Zd5 e2
  obtain⟨as,ra⟩:=Zdm I hr _ _ t1 r1 rx
  obtain⟨bs,rb⟩:=Zdm I hr _ _ t2 r2 ry
  exact SeqAt.compareEq_reads ra rb c1 c2 (by omega) ⟨.bl _,H,I,rfl,q _ H ι Le.refl hr (by simp)⟩
theorem Zd9 (hu:X.A.units+64<cLine):OpF X (Vq .NotEq) neD:=by
 rintro pins s σ H x y v u Q I rx ry ⟨ι,dx,dy,Hd,d,Hd',hr,r1,r2,e,q⟩
 unfold neD at e
 split at e
 ·rename_i a b es
  obtain⟨rfl,rfl⟩:=Zno es
  obtain⟨rfl,rfl⟩:=Wbd.inj (Wac.inj e)
  simp at r1 r2
  subst r1 r2
  obtain⟨t1,rfl⟩:=rx
  obtain⟨t2,rfl⟩:=ry
  exact PyProof.Rows.ne_str ⟨.bl _,H,I,rfl,q _ H ι Le.refl hr (by simp)⟩
 ·obtain⟨p,e1,e⟩:=Zo e
  obtain⟨p2,e2,e⟩:=Zm e
  obtain⟨rfl,rfl⟩:=Wbd.inj e
  obtain⟨t1,c1,d1⟩:=Zd5 e1
  obtain⟨t2,c2,d2⟩:=Zd5 e2
  obtain⟨as,ra⟩:=Zdm I hr _ _ t1 r1 rx
  obtain⟨bs,rb⟩:=Zdm I hr _ _ t2 r2 ry
  exact SeqAt.compareNe_reads ra rb c1 c2 (by omega) ⟨.bl _,H,I,rfl,q _ H ι Le.refl hr (by simp)⟩
nonrec def Znx:Vz->Option (List Vz)
 | .list xs=>some xs
 | .tuple xs=>some xs
 | _=>none
nonrec def inD:F2:=fun x y H=>(dat x H).bind fun p=>(dat y H).bind fun q=>(Znx q).map fun xs=>(.bl (xs.any fun z=>Ub z p),H)
nonrec def niD:F2:=fun x y H=>(dat x H).bind fun p=>(dat y H).bind fun q=>(Znx q).map fun xs=>(.bl (!xs.any fun z=>Ub z p),H)
theorem Zke (hu:X.A.units+64<cLine):OpF X (Vq .In) inD:=by
 rintro pins s σ H x y v u Q I rx ry ⟨ι,dx,dy,Hd,d,Hd',hr,r1,r2,e,q⟩
 obtain⟨p,e1,e⟩:=Zo e
 obtain⟨p2,e2,e⟩:=Zo e
 obtain⟨xs,e3,e⟩:=Zm e
 obtain⟨rfl,rfl⟩:=Wbd.inj e
 obtain⟨t1,c1,d1⟩:=Zd5 e1
 obtain⟨t2,c2,d2⟩:=Zd5 e2
 obtain⟨as,ra⟩:=Zdm I hr _ _ t1 r1 rx
 obtain⟨bs,rb⟩:=Zdm I hr _ _ t2 r2 ry
 have fin:EP X pins σ Q (.bool (xs.any fun z=>Ub z p)) s:=⟨.bl _,H,I,rfl,q _ H ι Le.refl hr (by simp)⟩
 cases p2 with
 | list ys =>
  cases e3
  simp only[Tad] at c2
  simp only[Tam] at d2
  exact SeqAt.in_list_reads rb ra c2 c1 (by omega) fin
 | tuple ys =>
  cases e3
  simp only[Tad] at c2
  simp only[Tam] at d2
  exact SeqAt.in_tuple_reads rb ra c2 c1 (by omega) fin
 | _=>simp[Znx] at e3
theorem Zg4 (hu:X.A.units+64<cLine):OpF X (Vq .NotIn) niD:=by
 rintro pins s σ H x y v u Q I rx ry ⟨ι,dx,dy,Hd,d,Hd',hr,r1,r2,e,q⟩
 obtain⟨p,e1,e⟩:=Zo e
 obtain⟨p2,e2,e⟩:=Zo e
 obtain⟨xs,e3,e⟩:=Zm e
 obtain⟨rfl,rfl⟩:=Wbd.inj e
 obtain⟨t1,c1,d1⟩:=Zd5 e1
 obtain⟨t2,c2,d2⟩:=Zd5 e2
 obtain⟨as,ra⟩:=Zdm I hr _ _ t1 r1 rx
 obtain⟨bs,rb⟩:=Zdm I hr _ _ t2 r2 ry
 have fin:EP X pins σ Q (.bool (!xs.any fun z=>Ub z p)) s:=⟨.bl _,H,I,rfl,q _ H ι Le.refl hr (by simp)⟩
 cases p2 with
 | list ys =>
  cases e3
  simp only[Tad] at c2
  simp only[Tam] at d2
  exact SeqAt.notIn_list_reads rb ra c2 c1 (by omega) fin
 | tuple ys =>
  cases e3
  simp only[Tad] at c2
  simp only[Tam] at d2
  exact SeqAt.notIn_tuple_reads rb ra c2 c1 (by omega) fin
 | _=>simp[Znx] at e3
nonrec def isB (x y:D):Option Bool:=match y,x with
 | .non,.non=>some true
 | .non,_=>some false
 | .bl b,.bl c=>some (c==b)
 | .bl _,_=>some false
 | _,_=>none
nonrec def isD:F2:=fun x y H=>(isB x y).map fun b=>(.bl b,H)
nonrec def Yb6:F2:=fun x y H=>(isB x y).map fun b=>(.bl (!b),H)
theorem Zo5 {M:Model} {A:Vt} {E:Vb->Vd->Prop} {s:Vd} {Q:Vb->Vd->Prop} {v:Vb} {b:Bool} (hv:∀ i,v≠.builtin i) (h:Q (.bool (v==.bool b)) s):Vf M A (Vq .Is v (.bool b)) Q E s:=by
 cases v<;>first | exact Vc h | exact absurd rfl (hv _)
theorem Zkb {M:Model} {A:Vt} {E:Vb->Vd->Prop} {s:Vd} {Q:Vb->Vd->Prop} {v:Vb} {b:Bool} (hv:∀ i,v≠.builtin i) (h:Q (.bool (!(v==.bool b))) s):Vf M A (Vq .IsNot v (.bool b)) Q E s:=by
 cases v<;>first | exact Vc h | exact absurd rfl (hv _)
theorem Zut {x:V} {v:Vb} (r:Zcg x v):∀ i,v≠.builtin i:=by
 intro i
 cases x with
 | non=>cases r; intro z; cases z
 | bl _=>cases r; intro z; cases z
 | int _=>obtain⟨t,rfl⟩:=r; intro z; cases z
 | str _=>obtain⟨t,rfl⟩:=r; intro z; cases z
 | byt _=>obtain⟨t,rfl⟩:=r; intro z; cases z
 | flt _=>obtain⟨t,rfl⟩:=r; intro z; cases z
 | ref _=>cases r; intro z; cases z
 | ty _=>cases r; intro z; cases z
theorem Zzs {dx dy:D} {x y:V} {v u:Vb} {b:Bool} (r1:Rep X.K H ι dx x) (r2:Rep X.K H ι dy y) (rx:Zcg x v) (ry:Zcg y u) (e:isB dx dy=some b) :
  (u=.none/\b=(v==.none))\/∃ c,u=.bool c/\b=(v==.bool c):=by
 cases dy with
 | non =>
  simp at r2; subst r2; cases ry
  refine .inl ⟨rfl,?_⟩
  cases dx with
  | non=>simp at r1; subst r1; cases rx; cases e; rfl
  | bl _=>simp at r1; subst r1; cases rx; cases e; rfl
  | int _=>simp at r1; subst r1; obtain⟨t,rfl⟩:=rx; cases e; rfl
  | str _=>simp at r1; subst r1; obtain⟨t,rfl⟩:=rx; cases e; rfl
  | ty _=>rw[Rep] at r1; rcases r1 with ⟨_,rfl⟩ | ⟨_,a,rfl,_⟩<;>(cases rx; cases e; rfl)
  | tup _=>obtain⟨a,_,rfl,_⟩:=Zbd.mp r1; cases rx; cases e; rfl
  | fl _=>obtain⟨a,_,rfl,_⟩:=Zhc.mp r1; cases rx; cases e; rfl
  | ref _=>obtain⟨a,rfl,_⟩:=Za1.mp r1; cases rx; cases e; rfl
 | bl c =>
  simp at r2; subst r2; cases ry
  refine .inr ⟨c,rfl,?_⟩
  cases dx with
  | non=>simp at r1; subst r1; cases rx; cases e; rfl
  | bl z=>simp at r1; subst r1; cases rx; cases e; cases z<;>cases c<;>rfl
  | int _=>simp at r1; subst r1; obtain⟨t,rfl⟩:=rx; cases e; rfl
  | str _=>simp at r1; subst r1; obtain⟨t,rfl⟩:=rx; cases e; rfl
  | ty _=>rw[Rep] at r1; rcases r1 with ⟨_,rfl⟩ | ⟨_,a,rfl,_⟩<;>(cases rx; cases e; rfl)
  | tup _=>obtain⟨a,_,rfl,_⟩:=Zbd.mp r1; cases rx; cases e; rfl
  | fl _=>obtain⟨a,_,rfl,_⟩:=Zhc.mp r1; cases rx; cases e; rfl
  | ref _=>obtain⟨a,rfl,_⟩:=Za1.mp r1; cases rx; cases e; rfl
 | _=>simp[isB] at e
theorem Ydu:OpF X (Vq .Is) isD:=by
 rintro pins s σ H x y v u Q I rx ry ⟨ι,dx,dy,Hd,d,Hd',hr,r1,r2,e,q⟩
 obtain⟨b,e1,e⟩:=Zm e
 obtain⟨rfl,rfl⟩:=Wbd.inj e
 have fin:EP X pins σ Q (.bool b) s:=⟨.bl _,H,I,rfl,q _ H ι Le.refl hr (by simp)⟩
 rcases Zzs r1 r2 rx ry e1 with ⟨rfl,rfl⟩ | ⟨c,rfl,rfl⟩
 ·exact is_none_gen fin
 ·exact Zo5 (Zut rx) fin
theorem Zpe:OpF X (Vq .IsNot) Yb6:=by
 rintro pins s σ H x y v u Q I rx ry ⟨ι,dx,dy,Hd,d,Hd',hr,r1,r2,e,q⟩
 obtain⟨b,e1,e⟩:=Zm e
 obtain⟨rfl,rfl⟩:=Wbd.inj e
 have fin:EP X pins σ Q (.bool (!b)) s:=⟨.bl _,H,I,rfl,q _ H ι Le.refl hr (by simp)⟩
 rcases Zzs r1 r2 rx ry e1 with ⟨rfl,rfl⟩ | ⟨c,rfl,rfl⟩
 ·exact isnot_none_gen fin
 ·exact Zkb (Zut rx) fin
nonrec def tyD:D->HD->Option String
 | .non,_=>some "NoneType"
 | .bl _,_=>some "bool"
 | .int _,_=>some "int"
 | .str _,_=>some "str"
 | .tup _,_=>some "tuple"
 | .fl _,_=>some "list"
 | .ref n,H=>match H[n]? with
  | some (.lst _)=>some "list"
  | _=>none
 | _,_=>none
nonrec def Ztv (c:String):Bool:=c == "bool" || c == "int" || c == "str" || c == "tuple" || c == "list"
nonrec def Zoe:FF:=fun ds H=>match ds with
 | [x,.ty c]=>if Ztv c=true then (tyD x H).map fun t=>(.bl (t==c||(t == "bool" && c == "int")),H) else none
 | _=>none
nonrec def tys:List String:=["NoneType","bool","int","str","tuple","list"]
theorem Zz5 {d:D} {t:String} (e:tyD d Hd=some t):t∈tys:=by
 cases d with
 | ref n =>
  simp only[tyD] at e
  split at e
  ·cases e; decide
  ·cases e
 | ty n=>simp[tyD] at e
 | _=>simp only[tyD] at e; cases e; decide
theorem Yeu (K:Xb) {t c:String} (ht:t∈tys) (hc:Ztv c=true):PySem.W.kitOne K (.type t) (.type c)=some (t==c||(t == "bool" && c == "int")):=by
 have hc':c = "bool" \/ c = "int" \/ c = "str" \/ c = "tuple" \/ c = "list" := by
  simpa [Ztv,or_assoc] using hc
 simp only[tys,Xj,Wbq,or_false] at ht
 rcases ht with rfl | rfl | rfl | rfl | rfl | rfl<;>rcases hc' with rfl | rfl | rfl | rfl | rfl<;>first | rfl | (with_unfolding_all rfl) | kernel_rfl
theorem Zv8:Zid X (.builtin "isinstance") Zoe:=by
 rintro pins s σ H xs us Q I rv ⟨ι,ds,Hd,d,Hd',hr,P,e,q⟩
 unfold Zoe at e
 split at e
 ·rename_i x c
  split at e
  ·rename_i hc
   obtain⟨t,e1,e⟩:=Zm e
   obtain⟨rfl,rfl⟩:=Wbd.inj e
   obtain⟨v,v',rfl,r,r'⟩:=Ycr P
   obtain⟨u,u',rfl,ru,ru'⟩:=Zxp rv
   have r':=(Zzf (show Zy9 c=true from hc)).mp r'
   subst r'
   cases ru'
   have k:=Yeu X.K (Zz5 e1) hc
   have fin:∀ tk,EP X pins σ Q (.bool (t==c||(t == "bool" && c == "int"))) { s with toks:=tk }:=fun tk=>⟨.bl _,H,I.tok tk,rfl,q _ H ι Le.refl hr (by simp)⟩
   cases x with
   | non=>simp at r; subst r; cases ru; cases e1; exact Wcc PySem.W.kitx_none I.kIn Tay k (fun z=>nomatch z) fin
   | bl y=>simp at r; subst r; cases ru; cases e1; exact Wcc PySem.W.kitx_bool I.kIn Tay k (fun z=>nomatch z) fin
   | int y=>simp at r; subst r; obtain⟨t,rfl⟩:=ru; cases e1; exact Wcc PySem.W.kitx_int I.kIn Tay k (fun z=>nomatch z) fin
   | str y=>simp at r; subst r; obtain⟨t,rfl⟩:=ru; cases e1; exact Wcc PySem.W.kitx_str I.kIn Tay k (fun z=>nomatch z) fin
   | ty _=>simp[tyD] at e1
   | tup ys =>
    obtain⟨a,vs,rfl,h,_⟩:=Zbd.mp r
    cases ru; cases e1
    obtain⟨its,_,⟨o,ho,hcl,_⟩,_⟩:=I.tuple h
    exact Wcc PySem.W.kitx_tuple I.kIn ⟨o,ho,hcl⟩ k (fun z=>nomatch z) fin
   | fl ys =>
    obtain⟨a,vs,rfl,h,_⟩:=Zhc.mp r
    cases ru; cases e1
    obtain⟨its,_,pl,_⟩:=I.list h.sq
    obtain⟨o,ho,hcl,_⟩:=pl.isList
    exact Wcc Wfh I.kIn ⟨o,ho,hcl⟩ k (fun z=>nomatch z) fin
   | ref n =>
    obtain⟨a,rfl,ha⟩:=Za1.mp r
    cases ru
    simp only[tyD] at e1
    split at e1
    ·rename_i ys eo
     cases e1
     obtain⟨vs,h1,_⟩:=hr.obj n a _ ha eo
     obtain⟨its,_,pl,_⟩:=I.list (SqL.of h1)
     obtain⟨o,ho,hcl,_⟩:=pl.isList
     exact Wcc Wfh I.kIn ⟨o,ho,hcl⟩ k (fun z=>nomatch z) fin
    ·cases e1
  ·cases e
 ·cases e
nonrec def Zhs:List D->Option (List Int)
 | []=>some []
 | .int i::r=>(Zhs r).map fun s=>i::s
 | _=>none
theorem Zn4:∀ {xs ys:List Int},xs.Perm ys->xs.Pairwise (· <= ·)->ys.Pairwise (· <= ·)->xs=ys
 | [],ys,p,_,_=>by simpa using p.symm
 | x::xs,[],p,_,_=>by simpa using p
 | x::xs,y::ys,p,h1,h2=>by
  rw[Wdu] at h1 h2
  have a1:y∈x::xs:=p.symm.subset (by simp)
  have a2:x∈y::ys:=p.subset (by simp)
  have e:x=y:=by
   rcases Xj.mp a1 with z | z
   ·exact z.symm
   ·rcases Xj.mp a2 with w | w
    ·exact w
    ·have:=h1.1 y z
     have:=h2.1 x w
     omega
  subst e
  rw[Zn4 (List.Perm.cons_inv p) h1.2 h2.2]
theorem Zmu {K:Xb}:∀ {xs:List D} {ns:List Int} {vs:List V},Zhs xs=some ns->Vj (Rep K H ι) xs vs->vs=ns.map V.int
 | [],ns,vs,e,P=>by cases P; cases e; rfl
 | .int i::r,ns,vs,e,P=>by
  simp only[Zhs] at e
  obtain⟨s,e1,rfl⟩:=Zm e
  cases P with
  | cons p P =>
   simp at p
   subst p
   rw[Zmu e1 P]
   rfl
 | .non::_,_,_,e,_=>by simp[Zhs] at e
 | .bl _::_,_,_,e,_=>by simp[Zhs] at e
 | .str _::_,_,_,e,_=>by simp[Zhs] at e
 | .ty _::_,_,_,e,_=>by simp[Zhs] at e
 | .tup _::_,_,_,e,_=>by simp[Zhs] at e
 | .fl _::_,_,_,e,_=>by simp[Zhs] at e
 | .ref _::_,_,_,e,_=>by simp[Zhs] at e
theorem Zmn:∀ {ns:List Int} {us:List Vb},Uax us ns->Zb7 (ns.map V.int) us:=by
 intro ns us h
 induction h with
 | nil=>exact .nil
 | cons n t _ ih=>exact .cons ⟨t,rfl⟩ ih
theorem Zml {K:Xb} (ns:List Int):Vj (Rep K H ι) (ns.map D.int) (ns.map V.int):=by
 induction ns with
 | nil=>exact .nil
 | cons n r ih=>exact .cons (by simp) ih
end
section
variable {X:Cx} {tg:Vw}
nonrec def Zjr:D->HD->Option (List D×Zgy)
 | .tup xs,_=>some (xs,[])
 | .fl xs,_=>some (xs,[])
 | .ref n,H=>match H[n]? with
  | some (.lst xs)=>some (xs,[(n,.lst xs)])
  | _=>none
 | _,_=>none
def Zn1 (i:Int):Prop := -(2 ^ 62)<=i/\i<2 ^ 62
instance (i:Int):Decidable (Zn1 i):=by unfold Zn1; exact inferInstance
nonrec def Zba (lo:Int) (n:Nat):List D:=(Wcv n).map fun k:Nat=>.int (lo+(k:Int))
theorem Zr2 {lo:Int} {n i:Nat} {d:D} (h:(Zba lo n)[i]? = some d):i<n/\d=.int (lo+i):=by
 unfold Zba at h
 rw[Xr] at h
 obtain⟨k,h1,rfl⟩:=Zm h
 rw[Xc] at h1
 obtain⟨hl,h1⟩:=h1
 simp at h1 hl
 subst h1
 exact⟨hl,rfl⟩
theorem Zu3 {K:Xb} {H0:Hp} {ι0:List Ve} (lo:Int) (n:Nat):ItRep K (Itr lo n) (Zba lo n) [] H0 ι0:=by
 refine⟨fun i H2 ι2 Hd2 l2 h2 _ hi=>(show i<n by simpa [Zba] using hi),fun i H2 ι2 Hd2 d x H3 l2 h2 _ hd y=>?_,fun i H2 ι2 Hd2 l2 h2 _ hi=>(show n<=i by simpa [Zba] using hi)⟩
 obtain⟨rfl,rfl⟩:=y
 obtain⟨_,rfl⟩:=Zr2 hd
 exact⟨ι2,Le.refl,h2,by simp⟩
nonrec def iR1 (f:AF):ItF:=fun σ H=>(f σ H).bind fun p=>match p.1 with
 | [.int j]=>if Zn1 j then some ((Zba 0 j.toNat,[]),p.2) else none
 | _=>none
theorem Zre {a:Vw} {f:AF} {p pos:Pos} (hg:Gl X "range") (hm:X.mg "range" = none) (ha:PAf X [a] f) (hs:Vg [a] X.env=[(false,eval a X.env)]:=by rfl):PIf X tg (.Call (.Name "range" p) [a] [] pos) (iR1 f):=by
 refine PIi (Zsn hg hm ha hs) fun σ H R zz=>?_
 obtain⟨ι,σd,Hd,xs,own,Hd',s,hr,e,q⟩:=zz
 obtain⟨⟨ds,H1⟩,e1,e⟩:=Zo e
 dsimp only at e
 split at e
 ·rename_i j
  split at e
  ·rename_i hj
   cases e
   refine⟨ι,σd,Hd,_,_,s,hr,e1,fun vs H' ι' l h P=>?_⟩
   obtain⟨v,rfl,r⟩:=Zmv P
   simp at r
   subst r
   exact⟨j,rfl,hj.1,hj.2,q _ H' ι' l h (Zu3 0 _)⟩
  ·cases e
 ·cases e
end
open Builtin.SmallTypes (nextOf)
section
variable {prog:Vi} {w:Vu} {A:Vt} {E:Vb->Vd->Prop} {s:Vd}
theorem Zqm {j t:Ve} {i:Nat} {its:Array Vb} {x:Vb} {Q:Vb->Vd->Prop} (hj:s.heap.IsTupleIter j t i) (ht:s.heap.IsTuple t its) (hx:its[i]? = some x)
  (hQ:∀ h',h'.IsTupleIter j t (i+1)->Wad j s.heap h'->Q x { s with heap:=h' }):Vf (Vm prog w) A (nextOf (.ref j)) Q E s:=by
 obtain⟨oj,ho,hcj,hdj⟩:=id hj
 obtain⟨ot,hot,_,nt,hdt⟩:=ht
 unfold nextOf
 refine Va (Vh (name:=Ua "__next__") hj.typeIs Uu (Vo Uu hj.typeIs Tbb ?_ (Tav _)))
 show Vf _ _ (Udg (.ref j) 0 >>= _) _ _ s
 refine Va (Vn ho hdj (x:=.ref t) rfl ?_)
 show Vf _ _ (if (Ux t==Ur)=true then _ else _) _ _ s
 rw[if_neg (show ¬ ((Ux t==Ur)=true) by intro z; cases z)]
 show Vf _ _ (Udg (.ref j) 1 >>= _) _ _ s
 refine Va (Vn ho hdj (x:=.int i 0) rfl ?_)
 show Vf _ _ (seqItems? (.ref t) >>= _) _ _ s
 refine Va (Uah hot hdt ?_)
 simp only[Waf,hx]
 refine Va (Ubt ho hdj (by simp) (Vc ⟨x,rfl,Vc (hQ _ ⟨_,Wdh _ ho (Tbq (Tap hdj _)),(Tcj ..).trans hcj,?_⟩ (Wad.update ..))⟩))
 rw[Tap hdj]; simp[Uag]
theorem Zu5 {j t:Ve} {i:Nat} {its:Array Vb} {Q:Vb->Vd->Prop} (hh:A.handled=none) (hj:s.heap.IsTupleIter j t i) (ht:s.heap.IsTuple t its) (hx:its[i]? = none)
  (hE:∀ h' e,Wdp j s.heap h'->(∃ o,h'.get? e=some o/\o.cls=.type "StopIteration")->E (.ref e) { s with heap:=h' }):Vf (Vm prog w) A (nextOf (.ref j)) Q E s:=by
 obtain⟨oj,ho,hcj,hdj⟩:=id hj
 obtain⟨ot,hot,_,nt,hdt⟩:=ht
 unfold nextOf
 refine Va (Vh (name:=Ua "__next__") hj.typeIs Uu (Vo Uu hj.typeIs Tbb ?_ (Tav _)))
 show Vf _ _ (Udg (.ref j) 0 >>= _) _ _ s
 refine Va (Vn ho hdj (x:=.ref t) rfl ?_)
 show Vf _ _ (if (Ux t==Ur)=true then _ else _) _ _ s
 rw[if_neg (show ¬ ((Ux t==Ur)=true) by intro z; cases z)]
 show Vf _ _ (Udg (.ref j) 1 >>= _) _ _ s
 refine Va (Vn ho hdj (x:=.int i 0) rfl ?_)
 show Vf _ _ (seqItems? (.ref t) >>= _) _ _ s
 refine Va (Uah hot hdt ?_)
 simp only[Waf,hx]
 refine Va (Ubd (Va (Ubt ho hdj (by simp) ?_)))
 show Vf _ _ (newExc (.type "StopIteration") [] >>= _) _ _ _
 refine Va ?_
 simp only[newExc,newTuple]
 refine Va (Vs ?_ (by size_fits))
 refine Va (m:=Ubu _ _) (wpAny_of_eq (a:=Ur) (by first | rfl | (simp only[Ubu]; rfl)) (Vs ?_ (by size_fits)))
 simp only[raiseNew]
 refine Va (wpAny_handled ?_)
 first | rw[show A.in1.handled=none from hh] | rw[hh]
 exact Va (Vc (wpAny_throw (hE _ _ (((Wad.update ..).extBut.push _).push _) ⟨_,Xf _ rfl,rfl⟩)))
theorem Zt0 {e j t:Ve} {i:Nat} {c:Int} {its:Array Vb} {x old:Vb} {Q:Option Vb->Vd->Prop} (he:Uay s.heap e j c old) (hj:s.heap.IsTupleIter j t i) (ht:s.heap.IsTuple t its) (hx:its[i]? = some x) (hne:e≠j)
  (hQ:∀ h' tk,Uco h' e j (c+1) x s.heap.objs.size->h'.IsTupleIter j t (i+1)->h'.get? s.heap.objs.size=some { cls:=.type "tuple",data:=.seq #[.int c tk,x] }->h'.objs.size=s.heap.objs.size+1 ->
   (∀ b o,b≠e->b≠j->s.heap.get? b=some o->h'.get? b=some o)->Q (some (.ref s.heap.objs.size)) { s with heap:=h',toks:=s.toks+1 }) :
  Vf (Vm prog w) A (Ubg (.ref e)) Q E s:=by
 have hT:s.TypeIs (.ref e) "enumerate" := ⟨_,he,rfl⟩
 unfold Ubg
 refine Va (Ual (Vh (name:=Ua "__next__") hT Ui (Vo Ui hT Tae ?_ (Tac _))))
 obtain⟨hp,g,d,tk,os⟩:=s
 show Vf _ _ (Udg (.ref e) 2 >>= _) _ _ _
 refine Va (Vn he rfl (x:=.ref j) rfl (Va (Zqm hj ht hx fun h1 j1 s1=>?_)))
 replace s1:Wad j hp h1:=s1
 have e1:Uay h1 e j c old:=(s1.2 e hne).trans he
 show Vf _ _ (Udg (.ref e) 3 >>= _) _ _ ⟨h1,g,d,tk,os⟩
 refine Va (Vn e1 rfl (x:=Uag c) rfl ?_)
 show Vf _ _ (Udg (.ref e) 4 >>= _) _ _ ⟨h1,g,d,tk,os⟩
 refine Va (Vn e1 rfl (x:=.none) rfl ?_)
 show Vf _ _ (mkInt c >>= _) _ _ ⟨h1,g,d,tk,os⟩
 refine Va (Uea ?_)
 show Vf _ _ (Udn (.ref e) 3 (Uag (c+1)) >>= _) _ _ ⟨h1,g,d,tk+1,os⟩
 refine Va (Vk e1 (by simp) fun h2 e2 s2=>?_)
 replace s2:Wad e h1 h2:=s2
 replace e2:Uay h2 e j (c+1) old:=e2
 show Vf _ _ (Udn (.ref e) 4 .none >>= _) _ _ ⟨h2,g,d,tk+1,os⟩
 refine Va (Vk e2 (by simp) fun h3 e3 s3=>?_)
 replace s3:Wad e h2 h3:=s3
 replace e3:Uay h3 e j (c+1) old:=e3
 show Vf _ _ (newTuple [.int c tk,x] >>= _) _ _ ⟨h3,g,d,tk+1,os⟩
 refine Va (Uda ?_)
 have e4:Uay (h3.push { cls:=.type "tuple",data:=.seq #[.int c tk,x] }) e j (c+1) old:=Xa _ e3
 generalize q4:h3.push { cls:=.type "tuple",data:=.seq #[.int c tk,x] }=h4 at e4
 have zz:h3.objs.size=hp.objs.size:=by rw[s3.1,s2.1,s1.1]
 have lt:e<hp.objs.size:=Xe he
 have t4:h4.get? hp.objs.size=some { cls:=.type "tuple",data:=.seq #[.int c tk,x] }:=by rw[<- q4,<- zz]; exact Xf _ rfl
 have z4:h4.objs.size=hp.objs.size+1:=by rw[<- q4,Way,zz]
 have k4:∀ b o,b≠e->b≠j->hp.get? b=some o->h4.get? b=some o:=fun b o n1 n2 q=>by
  rw[<- q4]; exact Xa _ (s3.extBut b o n1 (s2.extBut b o n1 (s1.extBut b o n2 q)))
 have j4:h4.IsTupleIter j t (i+1):=by
  obtain⟨o,ho,r⟩:=id j1
  exact⟨o,by rw[<- q4]; exact Xa _ (s3.extBut j o (Uo hne) (s2.extBut j o (Uo hne) ho)),r⟩
 show Vf _ _ (Uc (.ref e) >>= _) _ _ ⟨h4,g,d,tk+1,os⟩
 rw[zz]
 clear q4 e3 s3 e2 s2 e1 s1 j1 zz h3 h2 h1
 refine Va ?_
 unfold Uc
 refine Va (Vn e4 rfl (x:=.none) rfl (Vc ?_))
 simp only[if_true]
 refine Va (Ubd (Va (Vn e4 rfl (x:=old) rfl (Va (Vk e4 (by simp) fun h5 e5 s5=>?_)))))
 replace s5:Wad e h4 h5:=s5
 replace e5:Uay h5 e j (c+1) x:=e5
 show Vf _ _ (Ud (.ref e) (.ref hp.objs.size) >>= _) _ _ ⟨h5,g,d,tk+1,os⟩
 refine Va ?_
 unfold Ud
 refine Va (Vk e5 (by simp) fun h6 e6 s6=>?_)
 replace s6:Wad e h5 h6:=s6
 replace e6:Uco h6 e j (c+1) x hp.objs.size:=e6
 refine Vk e6 (by simp) fun h7 e7 s7=>?_
 replace s7:Wad e h6 h7:=s7
 replace e7:Uco h7 e j (c+1) x hp.objs.size:=e7
 have up:∀ b o,b≠e->h4.get? b=some o->h7.get? b=some o:=fun b o n q=>s7.extBut b o n (s6.extBut b o n (s5.extBut b o n q))
 refine Va (Ubm (Vc ⟨_,rfl,Vc (hQ h7 tk e7 ?_ (up _ _ (Wbt lt) t4) (by rw[s7.1,s6.1,s5.1,z4]) fun b o n1 n2 q=>up b o n1 (k4 b o n1 n2 q))⟩))
 obtain⟨o,ho,r⟩:=id j4
 exact⟨o,up j o (Uo hne) ho,r⟩
theorem Zwf {e j t:Ve} {i:Nat} {c:Int} {its:Array Vb} {old:Vb} {Q:Option Vb->Vd->Prop} (hh:A.handled=none) (he:Uay s.heap e j c old) (hj:s.heap.IsTupleIter j t i) (ht:s.heap.IsTuple t its) (hx:its[i]? = none)
  (hQ:∀ h',Wdp j s.heap h'->Q none { s with heap:=h' }):Vf (Vm prog w) A (Ubg (.ref e)) Q E s:=by
 have hT:s.TypeIs (.ref e) "enumerate" := ⟨_,he,rfl⟩
 unfold Ubg
 refine Va (Ual (Vh (name:=Ua "__next__") hT Ui (Vo Ui hT Tae ?_ (Tac _))))
 show Vf _ _ (Udg (.ref e) 2 >>= _) _ _ _
 refine Va (Vn he rfl (x:=.ref j) rfl (Va (Zu5 hh hj ht hx fun h' z he' zz=>?_)))
 obtain⟨o,ho,hc⟩:=zz
 exact Va (Ubh (T := "StopIteration") (b:=true) ⟨o,ho,hc⟩ Ubv (Vc (hQ _ he')))
open AutoSeq1 (wpAny_loadPart') in
theorem Zsu (t:Ve) (its:Array Vb) (n:Nat) (dct:Option Ve) (sl:Array (Option Vb)) :
  Meets (Builtin.«enumerate.__new__» ⟨[.type "enumerate",.ref t],[]⟩) (fun _ R s=>s.heap.get? t=some { cls:=.type "tuple",dict:=dct,data:=.seq its n,slots:=sl } /\
   R (.ok (.ret (.ref (s.heap.push { cls:=.type "tuple_iterator",data:=.fields #[.ref t,.int 0 0] }).objs.size)))
    { s with heap:=(s.heap.push { cls:=.type "tuple_iterator",data:=.fields #[.ref t,.int 0 0] }).push { cls:=.type "enumerate",data:=.fields #[.none,.bool false,.ref s.heap.objs.size,Uag 0,.none,.none] } }) :=
 .of_wp fun prog w A R s h=>by
  obtain⟨hp,g,d,tk,os⟩:=s; obtain⟨hl,h⟩:=h
  have hsub:=sub_enumerate
  have hL:Heap.IsTuple (Tcc ⟨hp,g,d,tk,os⟩) t its:=⟨_,hl,rfl,n,rfl⟩
  wp_walk using Vr hl
  refine wpAny_stack_any fun st=>Vc ?_
  split
  ·rename_i k _ _ _ _ _
   cases (k==Tbx "enumerate")<;>(wp_walk using Vr hl,Uaz hL; exact⟨_,rfl,h⟩)
  ·wp_walk using Vr hl,Uaz hL
   exact⟨_,rfl,h⟩
theorem Zsb {t:Ve} {its:Array Vb} {Q:Vb->Vd->Prop} (hL:s.heap.IsTuple t its)
  (h:∀ h',Uay h' (s.heap.objs.size+1) s.heap.objs.size 0 .none->h'.IsTupleIter s.heap.objs.size t 0->h'.objs.size=s.heap.objs.size+2 ->
   (∀ b o,s.heap.get? b=some o->h'.get? b=some o)->Q (.ref (s.heap.objs.size+1)) { s with heap:=h' }) :
  Vf (Vm prog w) A (call (.type "enumerate") [.ref t]) Q E s:=by
 obtain⟨⟨k,dct,dt,sl⟩,hl,hc,n,hd⟩:=hL
 replace hc:k=.type "tuple" := hc
 replace hd:dt=.seq its n:=hd
 subst hc hd
 refine Uds Tce (by decide) (Tbp _) (Tbr _) (fun obj=>Tca obj _) Tbs (Zsu t its n dct sl) ⟨hl,?_⟩
 have hz:(s.heap.push { cls:=.type "tuple_iterator",data:=.fields #[.ref t,.int 0 0] }).objs.size=s.heap.objs.size+1:=Way ..
 show _/\_
 rw[hz]
 have he:Uay ((s.heap.push { cls:=.type "tuple_iterator",data:=.fields #[.ref t,.int 0 0] }).push { cls:=.type "enumerate",data:=.fields #[.none,.bool false,.ref s.heap.objs.size,Uag 0,.none,.none] }) (s.heap.objs.size+1) s.heap.objs.size 0 .none:=by
  have q:=Xf (s.heap.push { cls:=.type "tuple_iterator",data:=.fields #[.ref t,.int 0 0] }) (o:={ cls:=.type "enumerate",data:=.fields #[.none,.bool false,.ref s.heap.objs.size,Uag 0,.none,.none] }) rfl
  rw[hz] at q; exact q
 exact⟨⟨_,he,rfl⟩,h _ he ⟨_,Xa _ (Xf _ rfl),rfl,rfl⟩ (by rw[Way,hz]) fun b o x=>Xa _ (Xa _ x)⟩
end
nonrec def IteT (K:Xb) (c:Int) (a:Ve):It :=
 ⟨fun i H=>∃ xs x,SqT K H a xs/\xs[i]? = some x,fun i H v H'=>∃ p x,H p=none/\v=.ref p/\H'=upd H p (.tup [.int (c+i),x])/\∀ xs,SqT K H a xs->xs[i]? = some x,fun i H=>∃ xs,SqT K H a xs/\xs.length<=i⟩
theorem Zsi {P:Vi} {w:Vu} {K:Xb} {es:List Vw} {k:Nat} {pos:Pos} (a e j:Ve) (c:Int) (hne:e≠j):Turn P w K (.Tuple es k pos) (IteT K c a) [e,j] e (fun i h=>∃ old,Uay h e j (c+i) old/\h.IsTupleIter j a i) where
 mem:=by simp
 obj:=fun i h st b hb=>by
  obtain⟨old,he,o,ho,hc,hd⟩:=st
  rcases Xj.mp hb with rfl | hb
  ·exact⟨_,he,fun v z=>by cases z⟩
  ·have:b=j:=by simpa using hb
   subst this
   exact⟨o,ho,fun v z=>by rw[hd] at z; cases z⟩
 keep:=fun i h h' st kk=>by
  obtain⟨old,he,o,ho,r⟩:=st
  exact⟨old,kk e (by simp) _ he,o,kk j (by simp) o ho,r⟩
 item:=by
  intro X hP hw hK hc i pins s σ H E I hf st hg
  subst hP hw hK
  obtain⟨xs,x,hq,hx⟩:=hg
  obtain⟨old,he,hj⟩:=st
  obtain⟨its,rv,p,hz⟩:=I.tuple hq
  obtain⟨u,hu,ru⟩:=rv.get hx
  have fe:=hf e (by simp)
  have fj:=hf j (by simp)
  refine Zt0 he hj (show s.heap.IsTuple a its.toArray from p) (x:=u) (by simpa using hu) hne fun h' tk eo j' t' z' kk=>?_
  refine⟨_,rfl,Ubp (s:={ s with heap:=h',toks:=s.toks+1 }) eo fun h2 e2 s2=>?_⟩
  replace s2:Wad e h' h2:=s2
  have le:e<s.heap.objs.size:=Xe he
  have ne2:s.heap.objs.size≠e:=Wbt le
  -- the iterator's two records have turned, the pair is new
  have t2:h2.get? s.heap.objs.size=some { cls:=.type "tuple",data:=.seq #[.int (c+i) tk,u] }:=s2.extBut _ _ ne2 t'
  have hp0:H s.heap.objs.size=none:=I.hok.fresh (Xd _)
  have up:∀ b o,b∉[e,j]->s.heap.get? b=some o->h2.get? b=some o:=fun b o hb q =>
   s2.extBut b o (fun z=>hb (by simp[z])) (kk b o (fun z=>hb (by simp[z])) (fun z=>hb (by simp[z])) q)
  have I2:Inv X pins σ (upd H s.heap.objs.size (.tup [.int (c+i),x])) { s with heap:=h2,toks:=s.toks+1 }:=by
   refine I.step (g':=s.gens) (d':=s.drawn) (t':=s.toks+1) (ch:=[e,j]) (fun b hb=>?_) (fun b o _ _ hb q n=>up b o hb q) (fun b o _ _ hb q n=>⟨o.slots,up b o hb q⟩) (fun b o _ q n=>?_) (fun b o hb q=>⟨o,up b o hb q⟩) (fun b ys q=>?_) (fun b o y q=>?_) (fun b ps q=>⟨#[],?_⟩) (fun m hm=>?_) (fun b o q=>?_) I.bare
   ·have:=hf b hb; exact⟨this.2.2.2.1,this.2.1,this.2.2.2.2.1,this.2.2.2.2.2⟩
   ·rw[Zah (Xi (Xe q))]; exact n
   ·rw[Zah (Zai q hp0)]; exact q
   ·rw[Zah (Zai q hp0)]; exact q
   ·rw[Zah (Zai q hp0),q]; simp
   ·obtain⟨o,es',ep,ho,r⟩:=hm
    exact⟨o,es',ep,s2.extBut _ o (Uo fe.2.1) (kk _ o (Uo fe.2.1) (Uo fj.2.1) ho),r⟩
   ·by_cases hb:b=s.heap.objs.size
    ·subst hb
     rw[Zas] at q
     cases q
     exact⟨(by show 2<=sizeLine; decide),[.int (c+i) tk,u],.cons ⟨tk,rfl⟩ (.cons ru .nil),_,t2,rfl,⟨_,rfl⟩,rfl⟩
    ·rw[Zah hb] at q
     refine(I.hok b o q).stay (fun d v hd z=>up d v (fun hm=>?_) z) (fun d z=>by rw[Zah (Zai z hp0)]; exact z) fun d ys z=>by rw[Zah (Zai z hp0)]; exact z
     have:H d≠none:=by
      rcases hd with rfl | hd
      ·rw[q]; simp
      ·rw[hd]; simp
     exact this (hf d hm).1
  refine⟨.ref s.heap.objs.size,_,I2,rfl,⟨_,x,hp0,rfl,rfl,fun ys hy=>by rw[I.tuple_inj hy hq]; exact hx⟩,?_,fun b hb=>?_⟩
  ·obtain⟨o,ho,r⟩:=id j'
   have ec:c+((i+1:Nat):Int)=c+(i:Int)+1:=by push_cast; omega
   exact⟨u,by rw[ec]; exact e2,o,s2.extBut j o (Uo hne) ho,r⟩
  ·have hb2:b≠s.heap.objs.size:=by
    rcases Xj.mp hb with rfl | hb
    ·exact Xi le
    ·have:b=j:=by simpa using hb
     subst this
     obtain⟨o,ho,_⟩:=id hj
     exact Xi (Xe ho)
   rw[Zah hb2]; exact(hf b hb).1
 done:=by
  intro X hP hw hK hc i pins s σ H E I hf st hg
  subst hP hw hK
  obtain⟨xs,hq,hx⟩:=hg
  obtain⟨old,he,hj⟩:=st
  obtain⟨its,rv,p,hz⟩:=I.tuple hq
  obtain⟨f0,f1,f2,f3,f4,f5⟩:=hf j (by simp)
  have hl:=rv.length
  exact Zwf (I.ok.hd hc) he hj (show s.heap.IsTuple a its.toArray from p) (by simp; omega) fun h' eb=>⟨rfl,I.turned (t':=s.toks) (fun b o hb q=>eb b o hb q) f0 f1 f3 f4 f5⟩
 self:=fun _ _ _ _ _ st h=>by
  obtain⟨old,he,_⟩:=st
  exact Ube he h
section
variable {X:Cx}
nonrec def Zck (c:Int):List D->List D
 | []=>[]
 | x::r=>.tup [.int c,x]::Zck (c+1) r
theorem Zfg:∀ (xs:List D) (c:Int),(Zck c xs).length=xs.length
 | [],_=>rfl
 | x::r,c=>by simp[Zck,Zfg r]
theorem Zje:∀ {xs:List D} {c:Int} {i:Nat} {d:D},(Zck c xs)[i]? = some d->∃ x,xs[i]? = some x/\d=.tup [.int (c+i),x]
 | [],c,i,d,h=>by simp[Zck] at h
 | x::r,c,0,d,h=>by simp[Zck] at h; exact⟨x,rfl,by rw[<- h]; simp⟩
 | x::r,c,i+1,d,h=>by
  simp only[Zck,Wce] at h
  obtain⟨y,h1,h2⟩:=Zje h
  refine⟨y,by simpa using h1,?_⟩
  rw[h2]
  have:c+1+(i:Int)=c+((i+1:Nat):Int):=by push_cast; omega
  rw[this]
theorem Zwz {K:Xb} {H0:Hp} {ι0:List Ve} {a:Ve} {c:Int} {xs:List D} {vs:List V} (hS:SqT K H0 a vs) (P:Vj (Rep K H0 ι0) xs vs)
  (inj:∀ (i:Nat) (H:Hp) (x:V),(∀ ys,SqT K H a ys->ys[i]? = some x)->SqT K H a vs->vs[i]? = some x):ItRep K (IteT K c a) (Zck c xs) [] H0 ι0:=by
 refine⟨fun i H2 ι2 Hd2 l2 h2 _ hi=>?_,fun i H2 ι2 Hd2 d v H3 l2 h2 _ hd y=>?_,fun i H2 ι2 Hd2 l2 h2 _ hi=>⟨vs,l2.tup a vs hS,by rw[<- Prd.len P,<- Zfg xs c]; exact hi⟩⟩
 ·exact⟨vs,vs[i]'(by rw[<- Prd.len P,<- Zfg xs c]; exact hi),l2.tup a vs hS,by simp⟩
 ·obtain⟨p,x,hp,rfl,rfl,y⟩:=y
  obtain⟨x',hx',rfl⟩:=Zje hd
  obtain⟨u,hu,ru⟩:=Prd.get P hx'
  have:=y vs (l2.tup a vs hS)
  rw[hu] at this
  cases this
  refine⟨ι2,Le.fresh hp _,h2.tup hp _,Zbd.mpr ⟨p,_,rfl,SqT.of Zas,.cons (by simp) (.cons ((ru.mono l2).mono (Le.fresh hp _)) .nil)⟩⟩
nonrec def Zn8 (f:AF):ItF:=fun σ H=>(f σ H).bind fun p=>match p.1 with
 | [.tup xs]=>some ((Zck 0 xs,[]),p.2)
 | _=>none
theorem Zlx {es:List Vw} {k:Nat} {tp p pos:Pos} {a:Vw} {f:AF} (hg:Gl X "enumerate") (hm:X.mg "enumerate" = none) (ha:PAf X [a] f) (hs:Vg [a] X.env=[(false,eval a X.env)]:=by rfl):PIf X (.Tuple es k tp) (.Call (.Name "enumerate" p) [a] [] pos) (Zn8 f):=by
 rintro pins s σ H R I ⟨ι,σd,Hd,xs,own,Hd',sr,hr,e,q⟩
 obtain⟨⟨ds,H1⟩,e1,e⟩:=Zo e
 dsimp only at e
 split at e
 ·rename_i ys
  cases e
  refine Call_ (Ze5 I hg hm boot_enumerate (Ug (thn (ha pos pins s σ H (fun vs H'=>∃ a ws,vs=[.ref a]/\SqT X.K H' a ws/\∀ (J:It) (H2:Hp),H2=H'->J=IteT X.K 0 a->R J H2) I ⟨ι,σd,Hd,_,_,sr,hr,e1,fun vs H' ι' l h P=>?_⟩) fun us s1 zz=>?_) hs rfl))
  ·obtain⟨v,rfl,r⟩:=Zmv P
   obtain⟨ad,ws,rfl,hS,P2⟩:=Zbd.mp r
   refine⟨ad,ws,rfl,hS,fun J H2 e2 e3=>?_⟩
   subst e2 e3
   exact q _ _ ι' l h (Zwz hS P2 fun i H x y h=>y ws h)
  ·obtain⟨vs,H2,I2,r2,q2⟩:=zz
   obtain⟨ad,ws,rfl,hS,q2⟩:=q2
   obtain⟨u,rfl,ru⟩:=Zi5 r2
   cases ru
   obtain⟨its,rv,p,hz⟩:=I2.tuple hS
   refine Zsb (show s1.heap.IsTuple ad its.toArray from p) fun h' he hj z' kk=>?_
   have I3:Inv X pins σ H2 { s1 with heap:=h' }:=I2.kept (t':=s1.toks) kk
   refine Ube (s:={ s1 with heap:=h' }) he ?_
   have ne:s1.heap.objs.size+1≠s1.heap.objs.size:=Wfs _
   refine⟨s1.heap.objs.size+1,[s1.heap.objs.size+1,s1.heap.objs.size],_,IteT X.K 0 ad,H2,rfl,I3,Zsi ad _ _ 0 ne,⟨.none,by simpa using he,hj⟩,fun b hb=>?_,q2 _ _ rfl rfl⟩
   have:s1.heap.objs.size<=b:=by
    rcases Xj.mp hb with rfl | hb
    ·exact Wed _
    ·have:b=s1.heap.objs.size:=by simpa using hb
     rw[this]; exact Xd _
   have fp:=I2.fpOk (b:=b) (H':=H2) this (I2.hok.fresh this)
   exact fp
 ·cases e
theorem Zxl {pins:List (Ve×Obj)} {σ:L2.St} {H:Hp} {s:Vd} {ch:List Ve} {h2:Uaa} {tk:Nat} {vs:List V} {us:List Vb} {n:Nat} (I:Inv X pins σ H s) (hf:∀ b∈ch,Zlo X pins H b)
  (up:∀ b o,b∉ch->s.heap.get? b=some o->h2.get? b=some o) (t2:h2.get? s.heap.objs.size=some { cls:=.type "tuple",data:=.seq us.toArray n }) (r:Zb7 vs us) (hz:vs.length<=sizeLine) :
  Inv X pins σ (upd H s.heap.objs.size (.tup vs)) { s with heap:=h2,toks:=tk }:=by
 have hp0:H s.heap.objs.size=none:=I.hok.fresh (Xd _)
 refine I.step (g':=s.gens) (d':=s.drawn) (t':=tk) (ch:=ch) (fun b hb=>?_) (fun b o _ _ hb q n=>up b o hb q) (fun b o _ _ hb q n=>⟨o.slots,up b o hb q⟩) (fun b o _ q n=>?_) (fun b o hb q=>⟨o,up b o hb q⟩) (fun b ys q=>?_) (fun b o y q=>?_) (fun b ps q=>⟨#[],?_⟩) (fun m hm=>?_) (fun b o q=>?_) I.bare
 ·have:=hf b hb; exact⟨this.2.2.2.1,this.2.1,this.2.2.2.2.1,this.2.2.2.2.2⟩
 ·rw[Zah (Xi (Xe q))]; exact n
 ·rw[Zah (Zai q hp0)]; exact q
 ·rw[Zah (Zai q hp0)]; exact q
 ·rw[Zah (Zai q hp0),q]; simp
 ·obtain⟨o,es',ep,ho,r⟩:=hm
  exact⟨o,es',ep,up _ o (fun z=>(hf _ z).2.1 rfl) ho,r⟩
 ·by_cases hb:b=s.heap.objs.size
  ·subst hb
   rw[Zas] at q
   cases q
   exact⟨hz,us,r,_,t2,rfl,⟨_,rfl⟩,rfl⟩
  ·rw[Zah hb] at q
   refine(I.hok b o q).stay (fun d v hd z=>up d v (fun hm=>?_) z) (fun d z=>by rw[Zah (Zai z hp0)]; exact z) fun d ys z=>by rw[Zah (Zai z hp0)]; exact z
   have:H d≠none:=by
    rcases hd with rfl | hd
    ·rw[q]; simp
    ·rw[hd]; simp
   exact this (hf d hm).1
theorem Zwn {pins:List (Ve×Obj)} {σ:L2.St} {H:Hp} {s:Vd} {ch:List Ve} {h2:Uaa} {tk:Nat} (I:Inv X pins σ H s) (hf:∀ b∈ch,Zlo X pins H b)
  (up:∀ b o,b∉ch->s.heap.get? b=some o->h2.get? b=some o):Inv X pins σ H { s with heap:=h2,toks:=tk }:=by
 refine I.step (g':=s.gens) (d':=s.drawn) (t':=tk) (ch:=ch) (fun b hb=>?_) (fun b o _ _ hb q n=>up b o hb q) (fun b o _ _ hb q n=>⟨o.slots,up b o hb q⟩) (fun b o _ q n=>n) (fun b o hb q=>⟨o,up b o hb q⟩) (fun b ys q=>q) (fun b o y q=>q) (fun b ps q=>⟨#[],by rw[q]; simp⟩) (fun m hm=>?_) (fun b o q=>?_) I.bare
 ·have:=hf b hb; exact⟨this.2.2.2.1,this.2.1,this.2.2.2.2.1,this.2.2.2.2.2⟩
 ·obtain⟨o,es',ep,ho,r⟩:=hm
  exact⟨o,es',ep,up _ o (fun z=>(hf _ z).2.1 rfl) ho,r⟩
 ·refine(I.hok b o q).stay (fun d v hd z=>up d v (fun hm=>?_) z) (fun d z=>z) fun d ys z=>z
  have:H d≠none:=by
   rcases hd with rfl | hd
   ·rw[q]; simp
   ·rw[hd]; simp
  exact this (hf d hm).1
end
structure Five (z a b c d:Ve):Prop where
 az:a≠z
 bz:b≠z
 cz:c≠z
 dz:d≠z
 ab:a≠b
 ac:a≠c
 ad:a≠d
 bc:b≠c
 bd:b≠d
 cd:c≠d
section
variable {X:Cx}
nonrec def Zqc:List D->List D->List D
 | x::xs,y::ys=>.tup [x,y]::Zqc xs ys
 | _,_=>[]
theorem Zlp:∀ (xs ys:List D),(Zqc xs ys).length=min xs.length ys.length
 | [],_=>by simp[Zqc]
 | _::_,[]=>by simp[Zqc]
 | x::xs,y::ys=>by simp[Zqc,Zlp xs ys]
theorem Zqg:∀ {xs ys:List D} {i:Nat} {d:D},(Zqc xs ys)[i]? = some d->∃ x y,xs[i]? = some x/\ys[i]? = some y/\d=.tup [x,y]
 | [],_,i,d,h=>by simp[Zqc] at h
 | _::_,[],i,d,h=>by simp[Zqc] at h
 | x::xs,y::ys,0,d,h=>by simp[Zqc] at h; exact⟨x,y,rfl,rfl,h.symm⟩
 | x::xs,y::ys,i+1,d,h=>by
  simp only[Zqc,Wce] at h
  obtain⟨u,v,h1,h2,h3⟩:=Zqg h
  exact⟨u,v,by simpa using h1,by simpa using h2,h3⟩
nonrec def It3 (lo c:Int) (n:Nat):It:=⟨fun i _=>i<n,fun i H x H'=>H'=H/\x=.int (lo+i*c),fun i _=>n<=i⟩
theorem Zo0 {P:Vi} {w:Vu} {K:Xb} {tg:Vw} (it:Ve) (lo c:Int) (n:Nat):Turn P w K tg (It3 lo c n) [it] it (fun i h=>Ude h it (lo+(i:Nat)*c) ((n:Int) - (i:Nat)) c) where
 mem:=by simp
 obj:=fun i h st b hb=>by
  have e:b=it:=by simpa using hb
  subst e
  exact⟨_,st,fun v z=>by
   have z':Data.fields _=Data.cell v:=z
   cases z'⟩
 keep:=fun i h h' st k=>k it (by simp) _ st
 item:=by
  intro X hP hw hK hc i pins s σ H E I hf st hg
  subst hP hw hK
  obtain⟨f0,f1,f2,f3,f4,f5⟩:=hf it (by simp)
  have W:=Walks.range (prog:=X.prog) (w:=X.w) (I.ok.hd hc) it lo c n
  refine W.item i s _ _ hg st fun v h' tk hv st' kk=>?_
  obtain⟨t,rfl⟩:=hv
  have I1:Inv X pins σ H { s with heap:=h',toks:=tk }:=I.turned (fun b o hb e=>kk b o (by simpa using hb) e) f0 f1 f3 f4 f5
  exact⟨_,rfl,Zto (s:={ s with heap:=h',toks:=tk }) (n := "range_iterator") st' rfl rfl (by decide) ⟨.int (lo+i*c),H,I1,⟨t,rfl⟩,⟨rfl,rfl⟩,st',fun b hb=>(hf b hb).1⟩⟩
 done:=by
  intro X hP hw hK hc i pins s σ H E I hf st hg
  subst hP hw hK
  obtain⟨f0,f1,f2,f3,f4,f5⟩:=hf it (by simp)
  exact Ucb (I.ok.hd hc) st (by have:n<=i:=hg; omega) fun h' eb=>⟨rfl,I.turned (t':=s.toks) (fun b o hb e=>eb b o hb e) f0 f1 f3 f4 f5⟩
 self:=fun _ _ _ _ _ st h=>Ucc st h
nonrec def Zgi (lo c:Int) (n:Nat):List D:=(Wcv n).map fun k:Nat=>.int (lo+(k:Int)*c)
end
structure Fn (P:Vi) (w:Vu) (K:Xb) (mg:Str->Option Vb) (base:Uaa) (k:Nat) (x:Str) (ps:List Str) (F:FF):Prop where
 ex:∃ f fd,FnOk P w K mg base CX0 k f fd ps (spF K ps.length F)/\Zoi K fd ps []/\Wcg K (.ref f)=true/\mg x=some (.ref f)/\∃ (oc:Vb) (od:Option Ve) (osl:Array (Option Vb)),K.lookup f=some ⟨oc,od,.func fd,osl⟩
theorem Zao {X:Cx} {k n:Nat} {ps:List Str} {x:Str} {p pos:Pos} {F:FF} {fa:AF} {e:Vw} {es:List Vw} (G:Fn X.prog X.w X.K X.mg X.base k x ps F) (hr:Room k X.A) (hg:Gl X x)
  (ha:PAf X (e::es) fa) (hdb:(x==("__debug__" : Str))=false:=by decide) (he:Vg (e::es) X.env=(false,eval e X.env)::Vg es X.env:=by exact Zbz rfl) (hpl:(Uam pos (Vg es X.env)).any (·.1)=false:=by exact Zc0 rfl) (hn:ps.length=n:=by rfl) :
  PEf X (.Call (.Name x p) (e::es) [] pos) (Zap n F fa):=by
 subst hn
 obtain⟨f,fd,G1,hb,hk,hm,_⟩:=G.ex
 exact Zx7 G1 hr hg hm hk hb ha hdb he hpl
def Tf (K:Xb) (mg:Str->Option Vb) (x:Str) (st:Uab):Prop:=∃ f fd,Fun K x x st f fd/\mg x=some (.ref f)
theorem us0 {us:List Vb} (h:us.length=0):us=[]:=Wda.mp h
theorem us1 {us:List Vb} (h:us.length=1):∃ a,us=[a]:=by
 obtain⟨a,r⟩:=Wal h
 obtain⟨t,rfl⟩:=r
 rw[us0 (us:=t) (by simpa using h)]
 exact⟨a,rfl⟩
theorem us2 {us:List Vb} (h:us.length=2):∃ a b,us=[a,b]:=by
 obtain⟨a,t,rfl⟩:=Wal h
 obtain⟨b,rfl⟩:=us1 (us:=t) (by simpa using h)
 exact⟨a,b,rfl⟩
theorem us3 {us:List Vb} (h:us.length=3):∃ a b c,us=[a,b,c]:=by
 obtain⟨a,t,rfl⟩:=Wal h
 obtain⟨b,c,rfl⟩:=us2 (us:=t) (by simpa using h)
 exact⟨a,b,c,rfl⟩
theorem us4 {us:List Vb} (h:us.length=4):∃ a b c d,us=[a,b,c,d]:=by
 obtain⟨a,t,rfl⟩:=Wal h
 obtain⟨b,c,d,rfl⟩:=us3 (us:=t) (by simpa using h)
 exact⟨a,b,c,d,rfl⟩
theorem us5 {us:List Vb} (h:us.length=5):∃ a b c d e,us=[a,b,c,d,e]:=by
 obtain⟨a,t,rfl⟩:=Wal h
 obtain⟨b,c,d,e,rfl⟩:=us4 (us:=t) (by simpa using h)
 exact⟨a,b,c,d,e,rfl⟩
theorem tf_mk {K:Xb} {h:Uaa} {mg:Str->Option Vb} {x:Str} {st:Uab} {f:Ve} {oc:Vb} {od an:Option Ve} {osl:Array (Option Vb)} {kV doc pm cdv ct:Vb} (X:K.In h) (G:h.Ns Vl mg)
  (a:Wcw K Vl x=some (some (.ref f))) (l:K.lookup f=some ⟨oc,od,.func (Wbi x x (Zcu st) (Za8 st) (Zad st) .none kV doc pm an cdv ct),osl⟩)
  (c:Wcs K cdv x=true) (k:Wcg K (.ref f)=true):Tf K mg x st:=⟨f,_,Zyt l c k,Wfc X G a⟩
theorem Za7 {P:Vi} {w:Vu} {K:Xb} {mg:Str->Option Vb} {base:Uaa} {x:Str} {st:Uab} {N ps:List Str} {k:Nat} {b:SF} (T:Tf K mg x st) (S:FnScope N ps (Zad st))
  (hbd:∀ (kV doc pm:Vb) (an:Option Ve) (cdv ct:Vb) (us:List Vb),us.length=ps.length->Ucs (Wbi x x (Zcu st) (Za8 st) (Zad st) .none kV doc pm an cdv ct) ⟨us,[]⟩=pure (ps.zip us))
  (hb:∀ (f:Ve) (cdv:Vb) (A:Vt) (outer:List Env) (s:Vd) (H:Hp) (E:XK),Room k (A.deeper (Uba x (Zad st) s.heap.objs.size f cdv)) ->
   Zp0 (Zmk CX0 P w K mg base N x (Zad st) f cdv A outer s H E).nox (Za8 st) b):Fn P w K mg base (k+1) x ps (Za4 ps.length N.length b):=by
 obtain⟨f,fd,F,hm⟩:=T
 refine⟨f,fd,fn_f F S fun cdv A outer s H E hr=>hb f cdv A outer s H E hr,F.binds hbd,F.kp,hm,?_⟩
 obtain⟨oc,od,kV,doc,pm,an,cdv,ct,osl,rfl,lk,hcd⟩:=F.ex
 exact⟨oc,od,osl,lk⟩
nonrec def blkB (sc scope:Ubj) (N:List Str) (x:Str) (cn:List Str) (ci:List Nat):Bool :=
 (scope.kind==.function)&&scope.names.all (fun y=>y.2 != .cell)&&scope.names.all (fun y=>y.2 != .local||scope.names.lookup y.1==some .local)&&(scope.names.lookup x==some .local) &&
 scope.names.all (fun y=>y.2 != .free||sc.names.lookup y.1==some .cell)&&decide (x::cn).Nodup&&(ci.length==cn.length) &&
 (cn.zip ci).all (fun p=>N[p.2]? == some p.1&&scope.names.lookup p.1==some .free&&sc.names.lookup p.1==some .cell)
theorem Zcr {P:Vi} {w:Vu} {K:Xb} {mg:Str->Option Vb} {base:Uaa} {N:List Str} {qual:Str} {sc scope:Ubj} {f:Ve} {cdv:Vb} {A:Vt} {outer:List Env} {s:Vd} {H:Hp} {E:XK} {x:Str} {cn:List Str} {ci:List Nat}
  (h:blkB sc scope N x cn ci=true):BlkOk (Zmk CX0 P w K mg base N qual sc f cdv A outer s H E).nox scope x cn ci:=by
 unfold blkB at h
 simp only[Wah,Xs,Wem,bne_iff_ne,ne_eq,beq_iff_eq,decide_eq_true_eq] at h
 obtain⟨⟨⟨⟨⟨⟨⟨h1,h2⟩,h3⟩,h4⟩,h5⟩,h6⟩,h7⟩,h8⟩:=h
 refine⟨h1,fun y hy=>h2 y hy,fun y hy hl=>(h3 y hy).resolve_left fun z=>z hl,h4,fun y hy hf=>?_,h6,h7,fun j y hj=>?_⟩
 ·have:=(h5 y hy).resolve_left fun z=>z hf
  obtain⟨c,hc⟩:=Zij (n:=s.heap.objs.size+1) this
  exact Wan.mpr ⟨c,hc⟩
 ·have hl:j<ci.length:=by rw[h7]; exact(Xc.mp hj).1
  have hm:(y,ci[j])∈cn.zip ci:=by
   refine Wbw.mpr ⟨j,?_⟩
   rw[Wdx]
   exact⟨hj,by simp[hl]⟩
  obtain⟨⟨k1,k2⟩,k3⟩:=h8 _ hm
  exact⟨ci[j],by simp[hl],k1,k2,.inl k3⟩
theorem Zpx:Vp "len" = some (.builtin "len"):=by decide +kernel
theorem Zs0:Vp "abs" = some (.builtin "abs"):=by decide +kernel
theorem Ydw:Vp "max" = some (.builtin "max"):=by decide +kernel
theorem Znq:Vp "sorted" = some (.builtin "sorted"):=by decide +kernel
theorem Zl3:Vp "isinstance" = some (.builtin "isinstance"):=by decide +kernel
theorem Zyo:Vp "all" = some (.builtin "all"):=by decide +kernel
theorem Zqv:Vp "int" = some (.type "int"):=by decide +kernel
theorem Zii:Vp "tuple" = some (.type "tuple"):=by decide +kernel
theorem Ztw:Vp "list" = some (.type "list"):=by decide +kernel
theorem Ybf:Vp "bool" = some (.type "bool"):=by decide +kernel
theorem Ycy:Vp "str" = some (.type "str"):=by decide +kernel
section
variable {X:Cx} {tg:Vw}
theorem Yan {K:Xb} {H0:Hp} {ι0:List Ve} {a:Ve} {xs:List D} {vs:List V} (hS:SqT K H0 a vs) (P:Vj (Rep K H0 ι0) xs vs):ItRep K (Itt K a) xs [] H0 ι0:=by
 refine⟨fun i H2 ι2 Hd2 l2 h2 _ hi=>?_,fun i H2 ι2 Hd2 d x H3 l2 h2 _ hd y=>?_,fun i H2 ι2 Hd2 l2 h2 _ hi=>⟨vs,l2.tup a vs hS,by rw[<- Prd.len P]; exact hi⟩⟩
 ·exact⟨vs,vs[i]'(by rw[<- Prd.len P]; exact hi),l2.tup a vs hS,by simp⟩
 ·obtain⟨rfl,y⟩:=y
  obtain⟨u,hu,ru⟩:=Prd.get P hd
  have:=y vs (l2.tup a vs hS)
  rw[hu] at this
  cases this
  exact⟨ι2,Le.refl,h2,ru.mono l2⟩
theorem Yec {K:Xb} {H0:Hp} {ι0:List Ve} {a:Ve} {xs:List D} {vs:List V} (hS:FzL K H0 a vs) (P:Vj (Rep K H0 ι0) xs vs):ItRep K (Itl K a) xs [] H0 ι0:=by
 refine⟨fun i H2 ι2 Hd2 l2 h2 _ hi=>?_,fun i H2 ι2 Hd2 d x H3 l2 h2 _ hd y=>?_,fun i H2 ι2 Hd2 l2 h2 _ hi=>⟨vs,(l2.fz a vs hS).sq,by rw[<- Prd.len P]; exact hi⟩⟩
 ·exact⟨vs,vs[i]'(by rw[<- Prd.len P]; exact hi),(l2.fz a vs hS).sq,by simp⟩
 ·obtain⟨rfl,y⟩:=y
  obtain⟨u,hu,ru⟩:=Prd.get P hd
  have:=y vs (l2.fz a vs hS).sq
  rw[hu] at this
  cases this
  exact⟨ι2,Le.refl,h2,ru.mono l2⟩
theorem Ybp {K:Xb} {H0:Hp} {ι0:List Ve} {a:Ve} {n:Nat} {xs:List D} (ha:ι0[n]? = some a):ItRep K (Itl K a) xs [(n,.lst xs)] H0 ι0:=by
 have now:∀ {H2:Hp} {ι2:List Ve} {Hd2:HD},Le K H0 ι0 H2 ι2->HRep K H2 ι2 Hd2->Zcb [(n,DO.lst xs)] Hd2->∃ ws,H2 a=some (.lst ws)/\Vj (Rep K H2 ι2) xs ws:=fun {H2 ι2 Hd2} l2 h2 ok =>
  h2.obj n a _ (l2.get ha) (ok (n,.lst xs) (by simp))
 refine⟨fun i H2 ι2 Hd2 l2 h2 ok hi=>?_,fun i H2 ι2 Hd2 d x H3 l2 h2 ok hd y=>?_,fun i H2 ι2 Hd2 l2 h2 ok hi=>?_⟩
 ·obtain⟨ws,h3,P3⟩:=now l2 h2 ok
  exact⟨ws,ws[i]'(by rw[<- Prd.len P3]; exact hi),SqL.of h3,by simp⟩
 ·obtain⟨ws,h3,P3⟩:=now l2 h2 ok
  obtain⟨rfl,y⟩:=y
  obtain⟨u,hu,ru⟩:=Prd.get P3 hd
  have:=y ws (SqL.of h3)
  rw[hu] at this
  cases this
  exact⟨ι2,Le.refl,h2,ru⟩
 ·obtain⟨ws,h3,P3⟩:=now l2 h2 ok
  exact⟨ws,SqL.of h3,by rw[<- Prd.len P3]; exact hi⟩
nonrec def iSq (f:EF):ItF:=fun σ H=>(f σ H).bind fun p=>(Zjr p.1 p.2).map fun r=>(r,p.2)
theorem Zcy {l:Vw} {f:EF} (hl:PEf X l f):PIf X tg l (iSq f):=by
 rintro pins s σ H R I ⟨ι,σd,Hd,xs,own,Hd',sr,hr,e,q⟩
 obtain⟨⟨d,H1⟩,e1,e⟩:=Zo e
 obtain⟨⟨ys,ow⟩,e2,e⟩:=Zm e
 obtain⟨e3,rfl⟩:=Wbd.inj e
 obtain⟨rfl,rfl⟩:=Wbd.inj e3
 refine thn (hl pins s σ H (fun v H1=>∃ a,v=.ref a/\(((∃ xs,SqL X.K H1 a xs)/\R (Itl X.K a) H1)\/((∃ xs,SqT X.K H1 a xs)/\R (Itt X.K a) H1))) I ⟨ι,σd,Hd,_,_,sr,hr,e1,fun v H' ι' l h r=>?_⟩) fun v s1 zz=>?_
 ·cases d with
  | tup zs =>
   cases e2
   obtain⟨a,vs,rfl,hS,P⟩:=Zbd.mp r
   exact⟨a,rfl,.inr ⟨⟨vs,hS⟩,q _ H' ι' l h (Yan hS P)⟩⟩
  | fl zs =>
   cases e2
   obtain⟨a,vs,rfl,hS,P⟩:=Zhc.mp r
   exact⟨a,rfl,.inl ⟨⟨vs,hS.sq⟩,q _ H' ι' l h (Yec hS P)⟩⟩
  | ref n =>
   simp only[Zjr] at e2
   split at e2
   ·rename_i zs eo
    obtain⟨e5,e6⟩:=Wbd.inj (Wac.inj e2)
    subst e5 e6
    obtain⟨a,rfl,ha⟩:=Za1.mp r
    obtain⟨vs,h1,P⟩:=h.obj n a _ ha eo
    exact⟨a,rfl,.inl ⟨⟨vs,SqL.of h1⟩,q _ H' ι' l h (Ybp ha)⟩⟩
   ·cases e2
  | _=>simp[Zjr] at e2
 ·obtain⟨x,H2,I2,r2,q2⟩:=zz
  obtain⟨a,rfl,q2⟩:=q2
  cases r2
  have fp:∀ b∈[s1.heap.objs.size],Zlo X pins H2 b:=fun b hb=>by
   have e:b=s1.heap.objs.size:=by simpa using hb
   subst e
   exact I2.fpOk (Xd _) (I2.hok.fresh (Xd _))
  rcases q2 with ⟨⟨xs,hq⟩,q2⟩ | ⟨⟨xs,hq⟩,q2⟩
  ·obtain⟨its,rv,p,hz⟩:=I2.list hq
   exact Uak p.isList ⟨s1.heap.objs.size,[s1.heap.objs.size],_,_,H2,rfl,I2.kept (t':=s1.toks) fun b o e=>Xa _ e,Zu8 a _,⟨_,Xf _ rfl,rfl,rfl⟩,fp,q2⟩
  ·obtain⟨its,rv,p,hz⟩:=I2.tuple hq
   exact Uaz (show s1.heap.IsTuple a its.toArray from p) ⟨s1.heap.objs.size,[s1.heap.objs.size],_,_,H2,rfl,I2.kept (t':=s1.toks) fun b o e=>Xa _ e,Zrs a _,⟨_,Xf _ rfl,rfl,rfl⟩,fp,q2⟩
end
theorem Zax {X:Cx} {e:Vw} {es:List Vw} {f:EF} {g:AF} (ha:PEf X e f) (hr:PAf X es g) (hs:Zp5 e=true):PAf X (e::es) (Zab f g):=Zyg ha hr (Zbz hs)
nonrec def Yek (F:FF) (K:Xb):Sp:=spF K 1 F
variable {X:Cx}
nonrec def Yb1:List D->Option (List Bool)
 | []=>some []
 | .bl b::r=>(Yb1 r).map fun x=>b::x
 | _::_=>none
theorem Zjf {K:Xb} {H:Hp} {ι:List Ve}:∀ {xs:List D} {bs:List Bool} {vs:List V} {us:List Vb},Yb1 xs=some bs->Vj (Rep K H ι) xs vs->Zb7 vs us->us=bs.map .bool
 | [],bs,vs,us,e,P,q=>by cases e; cases P; cases q; rfl
 | d::r,bs,vs,us,e,P,q=>by
  cases P with
  | cons p P =>
   cases q with
   | cons q Q =>
    cases d<;>simp only[Yb1] at e<;>try cases e
    obtain⟨y,e1,rfl⟩:=Zm e
    simp at p
    subst p
    cases q
    rw[Zjf e1 P Q]
    rfl
theorem Zqo (bs:List Bool):Yb1 (bs.map .bl)=some bs:=by
 induction bs with
 | nil=>rfl
 | cons b r ih=>simp[Yb1,ih]
nonrec def Zzi:FF:=fun ds H=>match ds with
 | [.ref n]=>match H[n]? with
  | some (.lst xs)=>(Yb1 xs).map fun bs=>(.bl (bs.all id),H)
  | _=>none
 | _=>none
theorem Zuw (bs:List Bool):((Wcv bs.length).all fun i=>(bs[i]?).getD true)=bs.all id:=by
 rw[Wen,Xs,Xs]
 constructor
 ·intro h x hx
  obtain⟨i,hi,rfl⟩:=Wex hx
  have:=h i (by simpa using hi)
  simpa [hi] using this
 ·intro h i hi
  have hi:i<bs.length:=by simpa using hi
  have:=h _ (Xy hi)
  simpa [hi] using this
theorem Zmt (hc:X.calm=true):Zid X (.builtin "all") Zzi:=by
 rintro pins s σ H xs us Q I rv ⟨ι,ds,Hd,d,Hd',hr,P,e,q⟩
 unfold Zzi at e
 split at e
 ·rename_i n
  split at e
  ·rename_i ys eo
   obtain⟨bs,e1,e⟩:=Zm e
   obtain⟨rfl,rfl⟩:=Wbd.inj e
   obtain⟨v,rfl,r⟩:=Zmv P
   obtain⟨a,rfl,ha⟩:=Za1.mp r
   obtain⟨vs,h1,P2⟩:=hr.obj n a _ ha eo
   cases rv with
   | cons rx rv =>
    cases rv
    cases rx
    obtain⟨its,rv2,p,hz⟩:=I.list (SqL.of h1)
    have eits:=Zjf e1 P2 rv2
    have hlt:a<s.heap.objs.size:=by
     obtain⟨o,ho,_⟩:=p.isList
     exact Xe ho
    refine call_all_walk (Uak p.isList ⟨s.heap.objs.size,[s.heap.objs.size,a],[s.heap.objs.size],its.toArray.size,_,_,fun i=>(bs[i]?).getD true,rfl,
     Walks.list (A:=X.A.in1) (show X.A.in1.handled=none from I.ok.hd hc) s.heap.objs.size a (Xi hlt) its.toArray,⟨⟨_,Xf _ rfl,rfl,rfl⟩,p.isList.at fun o z=>Xa _ z⟩,?_,fun h' tk k=>?_⟩)
    ·intro i v s2 Q2 E2 hv hq
     rw[eits] at hv
     have hv2:(bs.map Tbw)[i]? = some v:=by simpa using hv
     rw[Xr] at hv2
     obtain⟨b,hb,rfl⟩:=Zm hv2
     refine Vv ?_
     simpa [hb] using hq
    ·have hn:its.toArray.size=bs.length:=by rw[eits]; simp
     rw[hn,Zuw]
     refine⟨.bl (bs.all id),H,I.kept (t':=tk) fun b o z=>k b o ?_ (Xa _ z),rfl,q _ H ι Le.refl hr (by simp)⟩
     intro hm
     have:b=s.heap.objs.size:=by simpa using hm
     exact absurd (this ▸ Xe z) (Waz _)
  ·cases e
 ·cases e
variable {X:Cx}
section
variable {a b c:Vw} {pos:Pos}
nonrec def eCh (g g':F2) (fa fb fc:EF):EF:=fun σ H=>(fa σ H).bind fun p=>(fb σ p.2).bind fun q=>(g p.1 q.1 q.2).bind fun z=>(blD z.1).bind fun k=>if k=true then (fc σ z.2).bind fun w=>g' q.1 w.1 w.2 else some (.bl false,z.2)
theorem Zq0 {fa fb fc:EF} {g g':F2} {σ:L2.St} {H:Hp} {Q:VK} {K:Xb} (h:rdE K (eCh g g' fa fb fc) σ H Q):Zv4 (rd2 K g) (rd2 K g') (rdE K fa) (rdE K fb) (rdE K fc) σ H Q:=by
 obtain⟨ι,σd,Hd,d,Hd',s,hr,e,q⟩:=h
 obtain⟨⟨x,H1⟩,e1,e⟩:=Zo e
 obtain⟨⟨y,H2⟩,e2,e⟩:=Zo e
 obtain⟨⟨z,H3⟩,e3,e⟩:=Zo e
 obtain⟨k,e4,e⟩:=Zo e
 refine⟨ι,σd,Hd,x,H1,s,hr,e1,fun v1 H1' ι1 l1 h1 r1=>⟨ι1,σd,H1,y,H2,s.mono l1,h1,e2,fun v2 H2' ι2 l2 h2 r2=>⟨ι2,x,y,H2,z,H3,h2,r1.mono l2,r2,e3,fun v3 H3' ι3 l3 h3 r3=>⟨k,Zjv e4 r3,?_⟩⟩⟩⟩
 cases k with
 | true =>
  rw[if_pos rfl] at e ⊢
  obtain⟨⟨u,H4⟩,e5,e⟩:=Zo e
  exact⟨ι3,σd,H3,u,H4,s.mono ((l1.trans l2).trans l3),h3,e5,fun v4 H4' ι4 l4 h4 r4=>⟨ι4,y,u,H4,d,Hd',h4,r2.mono (l3.trans l4),r4,e,fun v H' ι' l h r=>q v H' ι' ((((l1.trans l2).trans l3).trans l4).trans l) h r⟩⟩
 | false =>
  rw[if_neg (by simp)] at e ⊢
  obtain⟨rfl,rfl⟩:=Wbd.inj (Wac.inj e)
  exact q _ H3' ι3 ((l1.trans l2).trans l3) h3 (by simp)
theorem Zjx {op op':Ueg} {g g':F2} {fa fb fc:EF} (ho:OpF X (Vq op) g) (ho':OpF X (Vq op') g') (ha:PEf X a fa) (hb:PEf X b fb) (hc:PEf X c fc)
  (hm:Udx [op,op'] [b,c]=false):PEf X (.Compare a [op,op'] [b,c] pos) (eCh g g' fa fb fc) :=
 PEi (Zxw ho ho' ha hb hc hm) fun _ _ _ h=>Zq0 h
theorem Zvw {op op':Ueg} {g g':F2} {fa fb fc:EF} (ho:OpF X (Vq op) g) (ho':OpF X (Vq op') g') (ha:PEf X a fa) (hb:PEf X b fb) (hc:PEf X c fc)
  (hm:Udx [op,op'] [b,c]=false):PTf X (.Compare a [op,op'] [b,c] pos) (tOf (eCh g g' fa fb fc)):=by
 refine PTi (Zyh ho ho' ha hb hc hm) fun σ H Q zz=>?_
 obtain⟨ι,σd,Hd,bb,Hd',s,hr,e,q⟩:=zz
 obtain⟨⟨x,H1⟩,e1,e⟩:=Zo e
 obtain⟨b',eb,e⟩:=Zm e
 cases e
 exact Zq0 ⟨ι,σd,Hd,x,H1,s,hr,e1,fun v H' ι' l h r=>⟨bb,Zjv eb r,q H' ι' l h⟩⟩
end
def Gc (K:Xb) (mg:Str->Option Vb) (x:Str) (d:D):Prop:=∃ u v,mg x=some u/\Zcg v u/\∀ H ι,Rep K H ι d v
theorem Zvu {x:Str} {d:D} {pos:Pos} (hg:Gl X x) (h:Gc X.K X.mg x d) (hd:(x==("__debug__" : Str))=false:=by decide):PEf X (.Name x pos) (eC d):=by
 obtain⟨u,v,hm,r,rp⟩:=h
 exact Zo7 (Zs6 (v:=v) hg hm r hd) rp
variable {X:Cx}
nonrec def Zbk (kvs:List (D×D)) (k:List Int):Option D:=(kvs.find? fun p=>nk p.1==some k).map (·.2)
nonrec def Zof (kvs:List (D×D)) (kd:D) (k:List Int) (vd:D):List (D×D) :=
 if (Zbk kvs k).isSome then kvs.map (fun p=>if nk p.1=some k then (p.1,vd) else p) else kvs++[(kd,vd)]
section
variable {K:Xb} {H:Hp} {ι:List Ve}
theorem Zlr {kvs:List (D×D)} {xs:List (List Int×Ve×Vb)} (h:Vj (Zsm K H ι) kvs xs) (k:List Int) :
  (Zbk kvs k=none/\atKey xs k=none)\/∃ vd b u v,Zbk kvs k=some vd/\atKey xs k=some (b,u)/\Zcg v u/\Rep K H ι vd v:=by
 unfold Zbk atKey
 induction h with
 | nil=>exact .inl ⟨rfl,rfl⟩
 | @cons p x ps ys r t ih =>
  obtain⟨r1,r2,v,r3,r4⟩:=r
  by_cases hk:x.1=k
  ·have e1:(nk p.1==some k)=true:=by rw[r1,hk]; simp
   refine .inr ⟨p.2,x.2.1,x.2.2,v,?_,?_,r3,r4⟩
   ·rw[Wcd]; simp only[e1]; rfl
   ·rw[Wcd]; simp only[hk,decide_true]; rfl
  ·have e1:¬ (nk p.1==some k)=true:=by rw[r1]; simpa using hk
   have e1':(nk p.1==some k)=false:=by simpa using e1
   have e2':decide (x.1=k)=false:=decide_eq_false hk
   rw[Wcd,Wcd]
   simp only[e1',e2']
   exact ih
theorem Zx2 {kvs:List (D×D)} {xs:List (List Int×Ve×Vb)} {kd vd:D} {k:List Int} {b:Ve} {u:Vb} {v:V} (h:Vj (Zsm K H ι) kvs xs) (h1:nk kd=some k) (h2:Rep K H ι kd (.ref b)) (rv:Zcg v u) (r:Rep K H ι vd v) :
  Vj (Zsm K H ι) (Zof kvs kd k vd) (Ueb xs k b u):=by
 have all:∀ {ls:List (D×D)} {ys:List (List Int×Ve×Vb)},Vj (Zsm K H ι) ls ys->Vj (Zsm K H ι) (ls.map (fun p=>if nk p.1=some k then (p.1,vd) else p)) (ys.map (putAt k u)):=by
  intro ls ys q
  induction q with
  | nil=>exact .nil
  | @cons p x ps zs r' t ih =>
   refine .cons ?_ ih
   obtain⟨r1,r2,r3⟩:=r'
   unfold putAt
   by_cases hk:x.1=k
   ·have e:nk p.1=some k:=by rw[r1,hk]
    show Zsm K H ι (if nk p.1=some k then (p.1,vd) else p) (if x.1=k then (x.1,x.2.1,u) else x)
    rw[if_pos hk,if_pos e]
    exact⟨r1,r2,v,rv,r⟩
   ·have e:¬ nk p.1=some k:=by rw[r1]; simpa using hk
    show Zsm K H ι (if nk p.1=some k then (p.1,vd) else p) (if x.1=k then (x.1,x.2.1,u) else x)
    rw[if_neg hk,if_neg e]
    exact⟨r1,r2,r3⟩
 unfold Zof Ueb
 rcases Zlr h k with ⟨e1,e2⟩ | ⟨_,_,_,_,e1,e2,_⟩
 ·rw[e1,e2]
  exact Prd.append h (.cons ⟨h1,h2,v,rv,r⟩ .nil)
 ·rw[e1,e2]
  exact all h
theorem Zxt (kvs:List (D×D)) (kd:D) (k:List Int) (vd:D):(Zof kvs kd k vd).length<=kvs.length+1:=by
 unfold Zof; split<;>simp
end
section
variable {pins:List (Ve×Obj)} {σ:L2.St} {H:Hp} {s:Vd} {ι:List Ve} {Hd:HD}
theorem Yd2 {d:D} {v:V} {u:Vb} {k:Int} {K:Xb} (e:nkOf d=some k) (r:Rep K H ι d v) (q:Zcg v u):Zn6 k u=true:=by
 cases d with
 | bl b=>cases e; simp at r; subst r; cases q; simp[Zn6,Zvr]
 | int i=>cases e; simp at r; subst r; obtain⟨t,rfl⟩:=q; simp[Zn6,Zvr]
 | _=>cases e
theorem Zm5 {P:Vi} {w:Vu} {K:Xb}:∀ {ds:List D} {vs:List V} {us:List Vb} {ks:List Int},Znc ds=some ks->Vj (Rep K H ι) ds vs->Zb7 vs us->ItemsAre (Zcx P w) ks us
 | [],vs,us,ks,e,p,q=>by cases e; cases p; cases q; exact .nil
 | d::ds,vs,us,ks,e,p,q=>by
  cases p with
  | cons p1 p2 =>
   cases q with
   | cons q1 q2 =>
    simp only[Znc] at e
    obtain⟨k,e1,e⟩:=Zo e
    obtain⟨r,e2,rfl⟩:=Zm e
    exact .cons (Yd2 e1 p1 q1) (Zm5 e2 p2 q2)
theorem Zqp (I:Inv X pins σ H s) {d:D} {k:List Int} {b:Ve} (e:nk d=some k) (r:Rep X.K H ι d (.ref b)):(Ubf (Zcx X.prog X.w)).is s.heap k b:=by
 cases d<;>simp only[nk] at e<;>try cases e
 rename_i ds
 obtain⟨a,vs,ea,h,P⟩:=Zbd.mp r
 cases ea
 obtain⟨its,rv,ht,hz⟩:=I.tuple h
 obtain⟨o,h1,h2,n,h3⟩:=ht
 exact⟨o,its.toArray,n,h1,h2,h3,by simpa using Zm5 e P rv⟩
theorem Zk7 (I:Inv X pins σ H s) {a:Ve} {kvs:List (D×D)} {fz:Bool} (h:Zrd X.K H ι a (.dic kvs fz)):(a==Uaf)=false/\kvs.length<=sizeLine/\∃ xs,(if fz=true then ∃ o,H a=some (.frz o (.ext (Zdb a xs))) else H a=some (.ext (Zdb a xs)))/\Vj (Zsm X.K H ι) kvs xs/\s.heap.DictOfH (Ubf (Zcx X.prog X.w)) a xs:=by
 obtain⟨h1,h2,xs,e,p⟩:=h
 have rd:Rd H a (.ext (Zdb a xs)):=by
  cases fz with
  | true=>rw[if_pos rfl] at e; exact .inr e
  | false=>rw[if_neg (by simp)] at e; exact .inl e
 obtain⟨⟨o,es,ep,g1,g2,g3,g4,g5⟩,_⟩:=(show Zde X.prog X.w H s.heap a (.ext (Zdb a xs)) from rd.ok I.hok)
 refine⟨h1,h2,xs,e,p,o,es,ep,g1,g2,g3,g4,?_,g5⟩
 have all:∀ {l:List (D×D)} {m:List (List Int×Ve×Vb)},Vj (Zsm X.K H ι) l m->∀ x∈m,(Ubf (Zcx X.prog X.w)).is s.heap x.1 x.2.1:=by
  intro l m q
  induction q with
  | nil=>intro x hx; exact nomatch hx
  | @cons p x ps qs hq t ih =>
   intro y hy
   rcases Xj.mp hy with e | hy
   ·subst e
    exact Zqp I hq.1 hq.2.1
   ·exact ih y hy
 exact all p
end
nonrec def Yao (x:D) (H:HD):Option (List (D×D)):=match x with
 | .ref n=>match H[n]? with
  | some (.dic kvs _)=>some kvs
  | _=>none
 | _=>none
theorem Znl {x:D} {Hd:HD} {kvs:List (D×D)} (e:Yao x Hd=some kvs):∃ n fz,x=.ref n/\Hd[n]? = some (.dic kvs fz):=by
 cases x<;>simp only[Yao] at e<;>try cases e
 rename_i n
 split at e
 ·rename_i fz h; cases e; exact⟨n,fz,rfl,h⟩
 ·cases e
nonrec def Zf6:F2:=fun x y H=>(Yao x H).bind fun kvs=>(nk y).bind fun k=>(Zbk kvs k).map fun v=>(v,H)
theorem Zvm {K:Xb} {H:Hp} {ι:List Ve} {d:D} {k:List Int} {v:V} (e:nk d=some k) (r:Rep K H ι d v):∃ b,v=.ref b:=by
 cases d<;>simp only[nk] at e<;>try cases e
 obtain⟨a,vs,rfl,_⟩:=Zbd.mp r
 exact⟨a,rfl⟩
theorem Zr3 (hu:X.A.units+64<cLine):IxF X Zf6:=by
 rintro va sl pins s σ H x y v u Q I rx ry ⟨ι,dx,dy,Hd,d,Hd',hr,r1,r2,e,q⟩ hs
 obtain⟨kvs,e1,e⟩:=Zo e
 obtain⟨k,e2,e⟩:=Zo e
 obtain⟨vd,e3,e⟩:=Zm e
 obtain⟨rfl,rfl⟩:=Wbd.inj e
 obtain⟨n,fz,rfl,hn⟩:=Znl e1
 obtain⟨a,rfl,ha⟩:=Za1.mp r1
 obtain⟨b,rfl⟩:=Zvm e2 r2
 cases rx
 cases ry
 obtain⟨h1,h2,xs,h3,P,dd⟩:=Zk7 I (hr.obj n a _ ha hn)
 have key:=Zqp I e2 r2
 rcases Zlr P k with ⟨z,_⟩ | ⟨vd',b',u',v',z1,z2,z3,z4⟩
 ·rw[z] at e3; cases e3
 ·rw[z1] at e3; cases e3
  have ty:s.TypeIs (.ref a) "dict" := dd.typeIs
  refine tail_any (ops:=[.ref a,.ref b]) ty PySem.F.slot_dict_getitem.lookup (wpAny_getItem_heap (knd:=Ubf (Zcx X.prog X.w)) (tupleKind_room_in1 (by omega)) key dd z2 ?_) hs
  exact⟨v',H,I.tok _,z3,q _ H ι Le.refl hr z4⟩
nonrec def eDN:EF:=fun _ H=>some (.ref H.length,H++[.dic [] false])
theorem Zli {pos:Pos}:PEf X (.Dict [] [] pos) eDN:=by
 rintro pins s σ H Q I ⟨ι,σd,Hd,d,Hd',sr,hr,e,q⟩
 cases e
 have hb:Uaf<s.heap.objs.size:=Nat.lt_trans (by decide) (show Vl<s.heap.objs.size from(I.mod.glob.keeps I.bk).lt)
 have hp:=I.hok.fresh (Xd s.heap.objs.size)
 have ok:Zde X.prog X.w (upd H s.heap.objs.size (.ext (Zdb s.heap.objs.size []))) (s.heap.push { cls:=.type "dict",data:=.dict #[] }) s.heap.objs.size (.ext (Zdb s.heap.objs.size [])) :=
  ⟨⟨_,#[],0,Xf _ rfl,⟨rfl,rfl,rfl⟩,rfl,rfl,List.nodup_nil⟩,⟨_,Xf _ rfl⟩,fun h1 h2 d k=>Zdb.keep d k⟩
 refine wpAny_Dict_empty ⟨.ref s.heap.objs.size,_,I.laid (a:=s.heap.objs.size) (o:=.ext (Zdb s.heap.objs.size [])) (t':=s.toks) (fun _ _ q=>Xa _ q) (Xd _) ok,rfl,?_⟩
 have hl:ι.length=Hd.length:=hr.len
 refine q _ _ (ι++[s.heap.objs.size]) (Le.fresh1 hp _) (hr.new hp ⟨beq_eq_false_iff_ne.mpr (Uo (Xi hb)),Wbm _,[],by rw[if_neg (by simp)]; exact Zas,.nil⟩) (Za1.mpr ⟨_,rfl,by rw[<- hl]; simp⟩)
nonrec def Znv:Zzx:=fun o i v H=>match o with
 | .ref n=>match H[n]? with
  | some (.dic kvs false)=>(nk i).bind fun k=>if kvs.length<sizeLine then some (H.set n (.dic (Zof kvs i k v) false)) else none
  | _=>none
 | _=>none
theorem Zn3 {pins:List (Ve×Obj)} {σ:L2.St} {H:Hp} {s:Vd} {a:Ve} {xs xs':List (List Int×Ve×Vb)} {h':Uaa} {t':Nat} (I:Inv X pins σ H s) (h3:H a=some (.ext (Zdb a xs))) (dd:h'.DictOfH (Ubf (Zcx X.prog X.w)) a xs') (hs:Wad a s.heap h') :
  Inv X pins σ (upd H a (.ext (Zdb a xs'))) { s with heap:=h',toks:=t' }:=by
 obtain⟨o,es,ep,g1,g2,g3,g4,_,g5⟩:=dd
 have ok:Zde X.prog X.w (upd H a (.ext (Zdb a xs'))) h' a (.ext (Zdb a xs')):=⟨⟨o,es,ep,g1,g2,g3,g4,g5⟩,⟨o,g1⟩,fun h1 h2 d k=>Zdb.keep d k⟩
 exact I.write (x:=a) (e:=a) (by rw[h3]; exact Tay) (.inl rfl) (fun b q hb z=>(hs.2 b hb).trans z) ⟨o,g1⟩ ok
theorem Zul {H:Hp} {ι:List Ve} {Hd:HD} {n:Nat} {a:Ve} {kvs:List (D×D)} {xs:List (List Int×Ve×Vb)} {kd vd:D} {k:List Int} {b:Ve} {u:Vb} {v:V} (hr:HRep X.K H ι Hd) (ha:ι[n]? = some a) (h1:(a==Uaf)=false) (hl:kvs.length<sizeLine) (h3:H a=some (.ext (Zdb a xs))) (P:Vj (Zsm X.K H ι) kvs xs) (e2:nk kd=some k) (r2:Rep X.K H ι kd (.ref b)) (rv:Zcg v u) (r3:Rep X.K H ι vd v) :
  Le X.K H ι (upd H a (.ext (Zdb a (Ueb xs k b u)))) ι/\HRep X.K (upd H a (.ext (Zdb a (Ueb xs k b u)))) ι (Hd.set n (.dic (Zof kvs kd k vd) false)):=by
 have L:Le X.K H ι (upd H a (.ext (Zdb a (Ueb xs k b u)))) ι:=Le.upd (Xz ha) h3 trivial _
 refine⟨L,hr.upd ha h3 trivial ⟨h1,?_,_,by rw[if_neg (by simp)]; exact Zas,?_⟩⟩
 ·have:=Zxt kvs kd k vd; omega
 ·refine Zx2 (Prd.imp P fun p x _ z=>⟨z.1,z.2.1.mono L,let ⟨v,z1,z2⟩:=z.2.2; ⟨v,z1,z2.mono L⟩⟩) e2 (r2.mono L) rv (r3.mono L)
theorem Yct (hu:X.A.units+64<cLine):Ybr X Znv:=by
 rintro pins s σ H o i v ov iv u Q I ro ri rv ⟨ι,od,id,vd,Hd,Hd',hr,r1,r2,r3,e,q⟩
 cases od<;>simp only[Znv] at e<;>try cases e
 rename_i n
 split at e
 ·rename_i kvs hn
  obtain⟨k,e2,e⟩:=Zo e
  split at e
  ·rename_i hl
   cases e
   obtain⟨a,rfl,ha⟩:=Za1.mp r1
   obtain⟨b,rfl⟩:=Zvm e2 r2
   cases ro
   cases ri
   obtain⟨h1,h2,xs,h3,P,dd⟩:=Zk7 I (hr.obj n a _ ha hn)
   rw[if_neg (by simp)] at h3
   have hz:xs.length<=sizeLine:=by rw[<- Prd.len P]; exact h2
   refine wpAny_setItem_heap (knd:=Ubf (Zcx X.prog X.w)) (hsz:=hz) (tupleKind_room_in1 (by omega)) (Zqp I e2 r2) dd fun h' dd' hs=>?_
   obtain⟨L,hr'⟩:=Zul hr ha h1 hl h3 P e2 r2 rv r3
   exact⟨_,Zn3 I h3 dd' hs,q _ ι L hr'⟩
  ·cases e
 ·cases e
section
variable {prog:Vi} {w:Vu} {kd:HeapKind prog w (List Int)} {A:Vt} {E:Vb->Vd->Prop} {s:Vd}
theorem Zpp {d b:Ve} {xs:List (List Int×Ve×Vb)} {k:List Int} {v:Vb} {Q:Vb->Vd->Prop} (rm:kd.room A) (key:kd.is s.heap k b) (dm:s.heap.DictOfH kd d xs) (sz:xs.length<=sizeLine)
  (old:∀ p,atKey xs k=some p->Q p.2 { s with toks:=s.toks+kd.draws k })
  (new:atKey xs k=none->∀ h2,h2.DictOfH kd d (Ueb xs k b v)->Wad d s.heap h2->Q v { s with heap:=h2,toks:=s.toks+kd.draws k }) :
  Vf (Vm prog w) A (Udb d (.ref b) v) Q E s:=by
 obtain⟨ob,es,ep,g1,g2,g3,g4,g5,g6⟩:=dm
 unfold Udb
 refine Uae (Va (kd.pyHash rm key (Va (wpAny_dictFind_heap (s:={ s with toks:=s.toks+kd.draws k }) rm key g1 g3 g4 g5 g6 (fun no=>?_) (fun j p hj=>?_)))))
 ·have em:=atKey_none_of_get no
  have sm:∀ f,Wad d s.heap (s.heap.update d f):=fun f=>Wad.update ..
  have len:=size_of_entries g4
  refine Va (Ubd (Va (wpAny_updateDictKeys (s:={ s with toks:=s.toks+kd.draws k }) (hz:=by omega) g1 g3 (Vc (new em _ ?_ (sm _))))))
  refine⟨_,_,ep+1,Wdh _ g1 (Obj.isFreed_of_dict (Tcb g3 _)),g2.mapDictKeys _,Tcb g3 _,?_⟩
  rw[storedH_new em]
  refine⟨by simp[g4,entryOfKey],fun x hx=>?_,?_⟩
  ·have one:kd.is s.heap x.1 x.2.1:=by
    rcases Xm.mp hx with hx | hx
    ·exact g5 x hx
    ·rw[Wbx.mp hx]; exact key
   exact kd.keeps one g1 g3 (sm _)
  ·have nm:=not_mem_keys_of_get no
   rw[Waj,Waq]
   refine⟨g6,by simp,fun x hx y hy e=>nm ?_⟩
   have yk:y=k:=by simpa using hy
   rw[<- yk,<- e]
   exact hx
 ·have ae:=entry_at g4 j
  rw[hj] at ae
  refine Va (Uar (s:={ s with toks:=s.toks+kd.draws k }) g1 g3 ?_)
  rw[ae]
  exact Va (Ubd (Vc (old p (atKey_of_get g6 hj))))
end
nonrec def Zj9 (x:D) (ds:List D) (H:HD):Option (D×HD):=match x,ds with
 | .ref n,[y,v]=>match H[n]? with
  | some (.dic kvs false)=>(nk y).bind fun k=>if kvs.length<sizeLine then match Zbk kvs k with
   | some z=>some (z,H)
   | none=>some (v,H.set n (.dic (Zof kvs y k v) false))
   else none
  | _=>none
 | _,_=>none
theorem Yau (hu:X.A.units+64<cLine):MtF X "dict.setdefault" Zj9:=by
 rintro pins s σ H x xs v us Q I rx rv ⟨ι,dx,ds,Hd,d,Hd',hr,r1,P1,e,q⟩
 unfold Zj9 at e
 split at e
 ·rename_i n y vd
  split at e
  ·rename_i kvs hn
   obtain⟨k,e2,e⟩:=Zo e
   split at e
   ·rename_i hl
    obtain⟨a,rfl,ha⟩:=Za1.mp r1
    obtain⟨v1,v2,rfl,ry,rd⟩:=Ycr P1
    obtain⟨b,rfl⟩:=Zvm e2 ry
    cases rx
    cases rv with
    | cons q1 rv =>
     cases rv with
     | cons q2 rv =>
      cases rv
      cases q1
      rename_i u2
      obtain⟨h1,h2,ys,h3,P,dd⟩:=Zk7 I (hr.obj n a _ ha hn)
      rw[if_neg (by simp)] at h3
      have hz:ys.length<=sizeLine:=by rw[<- Prd.len P]; exact h2
      have ty:s.TypeIs (.ref a) "dict" := dd.typeIs
      have body:Vf (Vm X.prog X.w) X.A.in1 (Builtin.«dict.setdefault» ⟨[.ref a,.ref b,u2],[]⟩) (fun fin s'=>∃ r,fin=.done (.ret r)/\EP X pins σ Q r s') X.xe s:=by
       unfold Builtin.«dict.setdefault» Builtin.Dict.keyAndDefault
       refine Va (Va (Ucp ty (Vc ?_)))
       show Vf _ _ (if (a==Uaf)=true then _ else (Udb a (.ref b) u2 >>= _)) _ _ s
       rw[if_neg (by rw[h1]; decide)]
       refine Va (Zpp (kd:=Ubf (Zcx X.prog X.w)) (show (Ubf (Zcx X.prog X.w)).room X.A.in1 from(by show X.A.units+1<cLine; omega)) (Zqp I e2 ry) dd hz (fun p hp=>?_) (fun hp h2' dd' hs=>?_))
       ·rcases Zlr P k with ⟨_,z⟩ | ⟨vd',b',u',v',z1,z2,z3,z4⟩
        ·rw[z] at hp; cases hp
        ·rw[z2] at hp; cases hp
         rw[z1] at e; cases e
         exact Vc ⟨_,rfl,v',H,I.tok _,z3,q _ H ι Le.refl hr z4⟩
       ·rcases Zlr P k with ⟨z,_⟩ | ⟨vd',b',u',v',z1,z2,z3,z4⟩
        ·rw[z] at e; cases e
         obtain⟨L,hr'⟩:=Zul hr ha h1 hl h3 P e2 ry q2 rd
         exact Vc ⟨_,rfl,v2,_,Zn3 I h3 dd' hs,q2,q _ _ ι L hr' (rd.mono L)⟩
        ·rw[z2] at hp; cases hp
      exact Vo Us ty PySem.F.entry_dict_setdefault body (PySem.F.args_dict_setdefault_3 _ _ _)
   ·cases e
  ·cases e
 ·cases e
nonrec def Zpc:D->HD->Bool
 | .ref n,H=>match H[n]? with
  | some (.dic _ _)=>true
  | _=>false
 | _,_=>false
nonrec def eDM (g:D->List D->HD->Option (D×HD)) (fo:EF) (f:AF):EF:=fun σ H=>(fo σ H).bind fun o=>if Zpc o.1 o.2=true then (f σ o.2).bind fun p=>g o.1 p.1 p.2 else none
theorem Zwv {pins:List (Ve×Obj)} {σ:L2.St} {H:Hp} {s:Vd} {ι:List Ve} {Hd:HD} {x:D} {v:V} {u:Vb} (I:Inv X pins σ H s) (hr:HRep X.K H ι Hd) (r:Rep X.K H ι x v) (rv:Zcg v u) (e:Zpc x Hd=true) :
  s.TypeIs u "dict" /\ ∀ b,u=.ref b->∃ ob,s.heap.get? b=some ob/\ob.dict=none:=by
 cases x<;>simp only[Zpc] at e<;>try cases e
 rename_i n
 split at e
 ·rename_i kvs fz hn
  obtain⟨a,rfl,ha⟩:=Za1.mp r
  cases rv
  obtain⟨_,_,xs,_,_,dd⟩:=Zk7 I (hr.obj n a _ ha hn)
  refine⟨dd.typeIs,fun b eb=>?_⟩
  cases eb
  obtain⟨ob,_,_,g1,g2,_⟩:=dd
  exact⟨ob,g1,g2.2.1⟩
 ·cases e
theorem Zt6 {e o:Vw} {es:List Vw} {name:Str} {apos cpos:Pos} {id:String} {g:D->List D->HD->Option (D×HD)} {fo:EF} {f:AF} (slot:Slot "dict" name id) (hty:typeOf (.builtin id)=pure (.type "method_descriptor")) (hm:MtF X id g) (ho:PEf X o fo) (ha:PAf X (e::es) f)
  (hbase:Udl o name X.env (eval o X.env)=eval o X.env:=by rfl)
  (hfew:((Uam cpos (Vg (e::es) X.env)).all (fun x => !x.1)&&(Udm cpos (Ubl [] X.env)).all (fun x=>x.1.isSome)
   && decide ((e::es).length+([]:List Ubx).length+(if ([]:List Ubx).isEmpty then 0 else 1)<30))=true:=by exact Zqz rfl (by decide))
  (hline:(apos.endLine==cpos.line)=true:=by rfl) (hs:Vg (e::es) X.env=(false,eval e X.env)::Vg es X.env:=by exact Zbz rfl) (hplain:(Uam cpos (Vg es X.env)).any (·.1)=false:=by exact Zc0 rfl) :
  PEf X (.Call (.Attribute o name apos) (e::es) [] cpos) (eDM g fo f):=by
 rintro pins s σ H Q I ⟨ι,σd,Hd,d,Hd',sr,hr,e0,q⟩
 obtain⟨⟨x,H1⟩,e1,e0⟩:=Zo e0
 dsimp only at e0
 split at e0
 ·rename_i hl
  obtain⟨⟨y,H2⟩,e2,e0⟩:=Zo e0
  let P1:VK:=fun v1 H1'=>∃ ι1,Le X.K H ι H1' ι1/\HRep X.K H1' ι1 H1/\Rep X.K H1' ι1 x v1
  refine Uce hbase hfew hline rfl (thn (ho pins s σ H P1 I ⟨ι,σd,Hd,x,H1,sr,hr,e1,fun v1 H1' ι1 l1 h1 r1=>⟨ι1,l1,h1,r1⟩⟩) fun v s1 zz=>?_)
  obtain⟨xv,H1',I1,rx,ι1,l1,h1,r1⟩:=zz
  obtain⟨t1,t2⟩:=Zwv I1 h1 r1 rx hl
  refine⟨"dict",id,PySem.F.plainAttrs_dict,slot,hty,t1,t2,?_⟩
  let P2:List V->Hp->Prop:=fun vs H2'=>∃ ι2,Le X.K H ι H2' ι2/\HRep X.K H2' ι2 H2/\Rep X.K H2' ι2 x xv/\Vj (Rep X.K H2' ι2) y vs
  have hA:=ha cpos pins s1 σ H1' P2 I1 ⟨ι1,σd,H1,y,H2,sr.mono l1,h1,e2,fun vs H2' ι2 l2 h2 r2=>⟨ι2,l1.trans l2,h2,r1.mono l2,r2⟩⟩
  rw[hs] at hA ⊢
  refine Tbo (by show (false||(Uam cpos (Vg es X.env)).any (·.1))=false; rw[hplain]<;>rfl) (Tbz ?_)
  exact thn hA fun us s2 ⟨vs,H2',I2,r2,ι2,l2,h2,rx2,rp⟩=>hm pins s2 σ H2' xv vs v us Q I2 rx r2 ⟨ι2,x,y,H2,d,Hd',h2,rx2,rp,e0,fun v H' ι' l h r=>q v H' ι' (l2.trans l) h r⟩
 ·cases e0
nonrec def Zsy:FF:=fun ds H=>match ds with
 | [x]=>(Yao x H).map fun kvs=>(.int kvs.length,H)
 | _=>none
theorem Zsg:Zid X (.builtin "len") Zsy:=by
 rintro pins s σ H xs us Q I rv ⟨ι,ds,Hd,d,Hd',hr,P,e,q⟩
 unfold Zsy at e
 split at e
 ·rename_i x
  obtain⟨kvs,e1,e⟩:=Zm e
  obtain⟨rfl,rfl⟩:=Wbd.inj e
  obtain⟨n,fz,rfl,hn⟩:=Znl e1
  obtain⟨v,rfl,r⟩:=Zmv P
  obtain⟨a,rfl,ha⟩:=Za1.mp r
  cases rv with
  | cons q1 rv =>
   cases rv
   cases q1
   obtain⟨h1,h2,ys,_,PK,dd⟩:=Zk7 I (hr.obj n a _ ha hn)
   have ty:s.TypeIs (.ref a) "dict" := dd.typeIs
   obtain⟨ob,es,ep,g1,g2,g3,g4,_⟩:=dd
   have sz:es.size=kvs.length:=by
    have a1:=size_of_entries g4
    have a2:=Prd.len PK
    omega
   have l63:(kvs.length:Int)<2 ^ 63:=by rw[Uz] at h2; omega
   have ask:∀ A' E',Vf (Vm X.prog X.w) A' (Builtin.«dict.__len__» ⟨[.ref a],[]⟩) (fun fin s'=>∃ r,fin=.done (.ret r)/\r=.int kvs.length s.toks/\s'={ s with toks:=s.toks+1 }) E' s:=by
    intro A' E'
    show Vf _ _ (dictSize a >>= _) _ _ s
    unfold dictSize
    refine Va (Va (Uar g1 g3 (Vc (Va (wpAny_pendingCount_other h1 (wpAny_ret_mkInt ?_))))))
    rw[Wfn,sz]
    exact⟨rfl,rfl⟩
   refine Calls.call_function_entry kind_len plain_len entry_len (args_len1 _) ?_
   unfold Builtin.«len»
   refine Va (m:=oneArg "len" _) (Vc (Va (m:=callSpecial? (.ref a) (Ua "__len__")) (Vh (name:=Ua "__len__") ty Tbt
    (Vo Tbt ty PySem.F.entry_dict_len (thn (ask _ _) fun fin s' ⟨r,f1,f2,f3⟩=>⟨r,f1,?_⟩) (PySem.F.args_dict_len_1 _)))))
   subst f2 f3
   refine Va (Uae (Vc (Va (Ubm ?_))))
   show Vf _ _ (if ((kvs.length:Nat):Int)<0 then _ else if ((kvs.length:Nat):Int) ≥ 2 ^ 63 then _ else _) _ _ _
   rw[if_neg (by omega),if_neg (by omega)]
   exact Va (Uea (Vc ⟨_,rfl,.int kvs.length,H,I.tok _,⟨_,rfl⟩,q _ H ι Le.refl hr (by simp)⟩))
 ·cases e
section
variable {prog:Vi} {w:Vu} {A:Vt} {E:Vb->Vd->Prop} {s:Vd}
theorem Zqt {d:Ve} {ob:Obj} {es:Array Uaj} {ep:Nat} {Q:Vb->Vd->Prop} (h0:(d==Uaf)=false) (g1:s.heap.get? d=some ob) (g2:ob.ExactDict) (g3:ob.data=.dict es ep)
  (q:Q (.ref s.heap.objs.size) { s with heap:=s.heap.push { cls:=.type "dict_keyiterator",data:=.fields #[.ref d,.int 0 0,.int es.size 0,.int ep 0] } }):Vf (Vm prog w) A (pyIter (.ref d)) Q E s:=by
 have ty:s.TypeIs (.ref d) "dict" := ⟨ob,g1,g2.1⟩
 refine wpAny_pyIter_slot ty F.slot_dict_iter (Vo F.slot_dict_iter ty F.entry_dict_iter ?_ (F.args_dict_iter_1 _))
 unfold Builtin.«dict.__iter__» Builtin.Dict.dictSlotNone
 refine Va (Va (Ucp ty (Vc ?_)))
 show Vf _ _ (Tbu d >>= _) _ _ s
 unfold Tbu
 rw[if_neg (by rw[h0]; decide)]
 refine Va (Vc (Va (Uar g1 g3 (Va (Ucq g1 g3 (Va (Vs (Vc ?_))))))))
 exact⟨_,rfl,"dict_keyiterator",_,⟨_,Xf _ rfl,rfl⟩,Um.lookup,by simpa [Uag] using q⟩
theorem Zv2 {d it:Ve} {ob:Obj} {es:Array Uaj} {i ep:Nat} {Q:Option Vb->Vd->Prop} (hit:s.heap.IsKeyIter it d i es.size ep) (g1:s.heap.get? d=some ob) (g3:ob.data=.dict es ep) (lt:i<es.size)
  (q:∀ h2,h2.IsKeyIter it d (i+1) es.size ep->Wad it s.heap h2->Q (some es[i].key) { s with heap:=h2 }):Vf (Vm prog w) A (Ubg (.ref it)) Q E s:=by
 have ty:=hit.typeIs
 obtain⟨oi,i1,i2,i3⟩:=id hit
 have own:Taw "dict_keyiterator" = false:=by decide
 unfold Ubg
 refine Va (Ual (Vh (name:=Ua "__next__") ty Um (Vo Um ty Tat ?_ (Tar _))))
 refine Va (Vc (Va (Va ?_)))
 refine Va (Uac ty (Vc (Va (wpAny_fieldsOf i1 i3 ?_))))
 simp only[own,Wbb,if_false]
 show Vf _ _ (if (Ux d==Ur)=true then _ else _) _ _ s
 have nn:¬ ((Ux d==Ur)=true):=Wbl
 rw[if_neg nn]
 refine Va (Vc (Va (Uar g1 g3 ?_)))
 rw[if_neg (by simp)]
 refine Va (Vc (Va (Ucq g1 g3 ?_)))
 rw[if_neg (by simp)]
 refine Vc ?_
 have neg:¬ ((i:Int)<0):=by omega
 simp only[neg,if_false,Waf,Wct lt]
 refine Va (Va (Uac ty (Vc (Va (Ucr ty ?_)))))
 show Vf _ _ (Udn (.ref it) 1 (Uag ((i:Int)+1)) >>= _) _ _ s
 let h2:=s.heap.update it (Obj.mapFields (·.setIfInBounds 1 (Uag ((i:Int)+1))))
 have it2:h2.IsKeyIter it d (i+1) es.size ep :=
  ⟨_,Wdh _ i1 (Tbq (Tap i3 _)),(Tcj ..).trans i2,by rw[Tap i3]; simp[Uag]⟩
 refine Va (Ubt i1 i3 (by simp) (Va (Uae (Va (Ucr (s:={ s with heap:=h2 }) it2.typeIs ?_)))))
 show Vf _ _ (pure es[i].key) _ _ _
 exact Vc (Vc ⟨_,rfl,Vc (q h2 it2 (Wad.update ..))⟩)
theorem Zq6 {d it:Ve} {ob:Obj} {es:Array Uaj} {i ep:Nat} {Q:Option Vb->Vd->Prop} (hh:A.handled=none) (hit:s.heap.IsKeyIter it d i es.size ep) (g1:s.heap.get? d=some ob) (g3:ob.data=.dict es ep) (ge:es.size<=i)
  (q:∀ h2,Wdp it s.heap h2->Q none { s with heap:=h2 }):Vf (Vm prog w) A (Ubg (.ref it)) Q E s:=by
 have ty:=hit.typeIs
 obtain⟨oi,i1,i2,i3⟩:=id hit
 have own:Taw "dict_keyiterator" = false:=by decide
 unfold Ubg
 refine Va (Ual (Vh (name:=Ua "__next__") ty Um (Vo Um ty Tat ?_ (Tar _))))
 refine Va (Vc (Va (Va ?_)))
 refine Va (Uac ty (Vc (Va (wpAny_fieldsOf i1 i3 ?_))))
 simp only[own,Wbb,if_false]
 show Vf _ _ (if (Ux d==Ur)=true then _ else _) _ _ s
 have nn:¬ ((Ux d==Ur)=true):=Wbl
 rw[if_neg nn]
 refine Va (Vc (Va (Uar g1 g3 ?_)))
 rw[if_neg (by simp)]
 refine Va (Vc (Va (Ucq g1 g3 ?_)))
 rw[if_neg (by simp)]
 refine Vc ?_
 have neg:¬ ((i:Int)<0):=by omega
 simp only[neg,if_false,Waf,Wde ge]
 refine Va (Va (Uac ty (Vc ?_)))
 show Vf _ _ (Udn (.ref it) 0 .none >>= _) _ _ s
 refine Va (Ubt i1 i3 (by simp) ?_)
 show Vf _ _ (newExc (.type "StopIteration") [] >>= _) _ _ _
 simp only[newExc,newTuple]
 refine Va (Va (Vs (Va (m:=Ubu _ _) (wpAny_of_eq (a:=Ur) (by first | rfl | (simp only[Ubu]; rfl)) (Vs ?_ (by size_fits)))) (by size_fits)))
 simp only[raiseNew]
 refine Va (wpAny_handled ?_)
 have hh1:A.in1.handled=none:=hh
 rw[hh1]
 refine Va (Vc (wpAny_throw ?_))
 refine Va (Ubh (T := "StopIteration") (b:=true) (by exact⟨_,Xf _ rfl,rfl⟩) Ubv ?_)
 exact Vc (q _ (((Wad.update ..).extBut.push _).push _))
end
nonrec def Itd (a:Ve) (ob:Obj) (u:HO) (ks:List Ve):It :=
 ⟨fun i H=>H a=some (.frz ob u)/\i<ks.length,fun i H x H'=>H'=H/\∃ b,ks[i]? = some b/\x=.ref b,fun i H=>H a=some (.frz ob u)/\ks.length<=i⟩
theorem Zyf {P:Vi} {w:Vu} {K:Xb} {tg:Vw} (a it:Ve) {ob:Obj} {u:HO} {es:Array Uaj} {ep:Nat} {ks:List Ve} (g3:ob.data=.dict es ep) (hk:es.toList.map (·.key)=ks.map Ux) :
  Turn P w K tg (Itd a ob u ks) [it] it (fun i h=>h.IsKeyIter it a i es.size ep) where
 mem:=by simp
 obj:=fun i h st b hb=>by
  have e:b=it:=by simpa using hb
  subst e
  obtain⟨o,e,c,d⟩:=st
  exact⟨o,e,fun v z=>by rw[d] at z; cases z⟩
 keep:=fun i h h' st k=>st.at fun o e=>k it (by simp) o e
 item:=by
  intro X hP hw hK hc i pins s σ H E I hf st hg
  subst hP hw hK
  obtain⟨hq,hx⟩:=hg
  obtain⟨g1,_⟩:=(show Zde X.prog X.w H s.heap a (.frz ob u) from I.hok a _ hq)
  obtain⟨f0,f1,f2,f3,f4,f5⟩:=hf it (by simp)
  have hl:es.size=ks.length:=by
   have:=congrArg Wbo hk
   simpa using this
  have lt:i<es.size:=by omega
  have key:es[i].key=Ux ks[i]:=by
   have e1:(es.toList.map (·.key))[i]? = some es[i].key:=by simp[lt]
   rw[hk,Xr,Xg hx] at e1
   exact(Wac.inj e1).symm
  refine Zv2 st g1 g3 lt fun h' st' sb=>?_
  have I1:Inv X pins σ H { s with heap:=h' }:=I.turned (t':=s.toks) (fun b o hb e=>(sb.2 b hb).trans e) f0 f1 f3 f4 f5
  obtain⟨o,e,c,d⟩:=id st'
  exact⟨_,rfl,Zto (s:={ s with heap:=h' }) e c d (by decide) ⟨.ref ks[i],H,I1,key,⟨rfl,ks[i],Xg hx,rfl⟩,st',fun b hb=>(hf b hb).1⟩⟩
 done:=by
  intro X hP hw hK hc i pins s σ H E I hf st hg
  subst hP hw hK
  obtain⟨hq,hx⟩:=hg
  obtain⟨g1,_⟩:=(show Zde X.prog X.w H s.heap a (.frz ob u) from I.hok a _ hq)
  obtain⟨f0,f1,f2,f3,f4,f5⟩:=hf it (by simp)
  have hl:es.size=ks.length:=by
   have:=congrArg Wbo hk
   simpa using this
  exact Zq6 (I.ok.hd hc) st g1 g3 (by omega) fun h' eb=>⟨rfl,I.turned (t':=s.toks) (fun b o hb e=>eb b o hb e) f0 f1 f3 f4 f5⟩
 self:=fun _ _ _ _ _ st h=>Ucw st h
variable {X:Cx} {tg:Vw}
nonrec def Yad (f:EF):ItF:=fun σ H=>(f σ H).bind fun p=>match p.1 with
 | .ref n=>match p.2[n]? with
  | some (.dic kvs _)=>some ((kvs.map (·.1),[(n,.dic kvs true)]),p.2.set n (.dic kvs true))
  | _=>none
 | _=>none
theorem Zt3 {K:Xb} {H:Hp} {ι:List Ve} {kvs:List (D×D)} {xs:List (List Int×Ve×Vb)} (h:Vj (Zsm K H ι) kvs xs):Vj (Rep K H ι) (kvs.map (·.1)) (xs.map fun x=>V.ref x.2.1):=by
 induction h with
 | nil=>exact .nil
 | cons r t ih=>exact .cons r.2.1 ih
theorem Zu2 {l:Vw} {f:EF} (hl:PEf X l f):PIf X tg l (Yad f):=by
 rintro pins s σ H R I ⟨ι,σd,Hd,xs,own,Hd',sr,hr,e,q⟩
 obtain⟨⟨x,H1⟩,e1,e⟩:=Zo e
 obtain⟨n,rfl⟩:∃ n,x=.ref n:=by cases x<;>first | exact⟨_,rfl⟩ | cases e
 let P1:VK:=fun v1 H1'=>∃ ι1,Le X.K H ι H1' ι1/\HRep X.K H1' ι1 H1/\Rep X.K H1' ι1 (.ref n) v1
 refine thn (hl pins s σ H P1 I ⟨ι,σd,Hd,.ref n,H1,sr,hr,e1,fun v1 H1' ι1 l1 h1 r1=>⟨ι1,l1,h1,r1⟩⟩) fun v s1 zz=>?_
 obtain⟨xv,H1',I1,rx,ι1,l1,h1,r1⟩:=zz
 simp only at e
 split at e
 ·rename_i kvs fz hn
  cases e
  obtain⟨a,rfl,ha⟩:=Za1.mp r1
  cases rx
  obtain⟨z1,z2,ys,z3,PK,dd⟩:=Zk7 I1 (h1.obj n a _ ha hn)
  obtain⟨ob,es,ep,g1,g2,g3,g4,g5,g6⟩:=dd
  refine Zqt z1 g1 g2 g3 ?_
  let u:HO:=.ext (Zdb a ys)
  let H2:Hp:=upd H1' a (.frz ob u)
  have keys:es.toList.map (·.key)=(ys.map fun x=>x.2.1).map Ux:=by rw[g4,Waw,Waw]; rfl
  have da:Zdb a ys s1.heap:=⟨ob,es,ep,g1,g2,g3,g4,g6⟩
  have okN:∀ Hx,Zde X.prog X.w Hx s1.heap a (.frz ob u):=fun Hx=>⟨g1,da,⟨ob,g1⟩,fun h1 h2 d k=>Zdb.keep d k⟩
  have froz:Inv X pins σ H2 s1/\Le X.K H1' ι1 H2 ι1:=by
   cases fz with
   | false =>
    rw[if_neg (by simp)] at z3
    exact⟨I1.write (t':=s1.toks) (h':=s1.heap) (x:=a) (e:=a) (by rw[z3]; exact Tay) (.inl rfl) (fun b q hb z=>z) ⟨ob,g1⟩ (okN _),Le.upd (Xz ha) z3 trivial _⟩
   | true =>
    rw[if_pos rfl] at z3
    obtain⟨o2,z3⟩:=z3
    obtain⟨g1',_⟩:=(show Zde X.prog X.w H1' s1.heap a (.frz o2 (.ext (Zdb a ys))) from I1.hok a _ z3)
    have eo:o2=ob:=Wac.inj (g1'.symm.trans g1)
    have eH:H2=H1':=by
     funext b
     by_cases hb:b=a
     ·subst hb; show upd H1' b (.frz ob u) b=H1' b; rw[Zas,z3,eo]
     ·exact Zah hb
    rw[eH]
    exact⟨I1,Le.refl⟩
  obtain⟨I2,L2'⟩:=froz
  have hr2:HRep X.K H2 ι1 (H1.set n (.dic kvs true)):=by
   refine⟨by simp[h1.len],h1.nd,fun m b oc m1 m2=>?_⟩
   by_cases hm:n=m
   ·subst hm
    rw[ha] at m1; cases m1
    rw[Wdg] at m2
    rw[if_pos rfl] at m2
    split at m2
    ·cases m2
     exact⟨z1,z2,ys,by rw[if_pos rfl]; exact⟨ob,Zas⟩,Prd.imp PK fun p x _ z=>⟨z.1,z.2.1.mono L2',let ⟨v,w1,w2⟩:=z.2.2; ⟨v,w1,w2.mono L2'⟩⟩⟩
    ·cases m2
   ·rw[Wap hm] at m2
    have hb:b≠a:=fun z=>by
     subst z
     exact hm ((Wfg (Xc.mp ha).1 h1.nd).mp (ha.trans m1.symm))
    exact(h1.obj m b oc m1 m2).step L2'.toLw (Zah hb)
  have I3:Inv X pins σ H2 { s1 with heap:=s1.heap.push { cls:=.type "dict_keyiterator",data:=.fields #[.ref a,.int 0 0,.int es.size 0,.int ep 0] } }:=I2.kept (t':=s1.toks) fun b o e=>Xa _ e
  refine⟨s1.heap.objs.size,[s1.heap.objs.size],_,Itd a ob u (ys.map fun x=>x.2.1),H2,rfl,I3,Zyf a _ g3 keys,⟨_,Xf _ rfl,rfl,rfl⟩,fun b hb=>?_,?_⟩
  ·have e:b=s1.heap.objs.size:=by simpa using hb
   subst e
   exact I2.fpOk (Xd _) (I2.hok.fresh (Xd _))
  ·have fa:H2 a=some (.frz ob u):=Zas
   have pk:=Zt3 PK
   refine q _ H2 ι1 (l1.trans L2') hr2 ⟨fun i H3 ι3 Hd3 l3 h3 _ hi=>⟨l3.fr _ _ _ fa,?_⟩,fun i H3 ι3 Hd3 d x H4 l3 h3 _ hd y=>?_,fun i H3 ι3 Hd3 l3 h3 _ hi=>⟨l3.fr _ _ _ fa,?_⟩⟩
   ·have:=Prd.len PK; simp only[Xo] at hi ⊢; omega
   ·obtain⟨rfl,b,hb,rfl⟩:=y
    obtain⟨v,hv,rv⟩:=Prd.get pk hd
    have ev:v=.ref b:=by
     rw[Xr] at hv hb
     cases hy:ys[i]? with
     | none=>rw[hy] at hv; cases hv
     | some yv=>rw[hy] at hv hb; cases hv; cases hb; rfl
    subst ev
    exact⟨ι3,Le.refl,h3,(rv.mono L2').mono l3⟩
   ·have:=Prd.len PK; simp only[Xo] at hi ⊢; omega
 ·cases e
theorem Zt8 {K:Xb} {h:Uaa} {mg:Str->Option Vb} {x:Str} {b1 b2:Bool} {p:Ve} {n:Nat} {osl:Array (Option Vb)} (X:K.In h) (G:h.Ns Vl mg) (a:Wcw K Vl x=some (some (.ref p)))
  (l:K.lookup p=some ⟨.type "tuple",none,.seq #[.bool b1,.bool b2] n,osl⟩):Gc K mg x (.tup [.bl b1,.bl b2]):=by
 refine⟨_,.ref p,Wfc X G a,rfl,fun H ι=>Zbd.mpr ⟨p,[.bl b1,.bl b2],rfl,.inr ⟨_,_,_,l,rfl,rfl,?_,?_,rfl⟩,?_⟩⟩
 ·show 2<=sizeLine
  rw[Uz]; omega
 ·exact .cons rfl (.cons rfl .nil)
 ·exact .cons (by simp) (.cons (by simp) .nil)
variable {X:Cx}
variable {X:Cx} {tg:Vw}
nonrec def Zei (n1 N1 n2 N2:Nat) (a b:FF->FF->SF):Nat->FF×FF
 | 0=>(Za4 n1 N1 fun _ _=>none,Za4 n2 N2 fun _ _=>none)
 | j+1=>(Za4 n1 N1 (a (Zei n1 N1 n2 N2 a b j).1 (Zei n1 N1 n2 N2 a b j).2),Za4 n2 N2 (b (Zei n1 N1 n2 N2 a b j).1 (Zei n1 N1 n2 N2 a b j).2))
theorem Zoo {P:Vi} {w:Vu} {K:Xb} {mg:Str->Option Vb} {base:Uaa} {x y:Str} {st su:Uab} {N1 ps N2 qs:List Str} {k:Nat} {a b:FF->FF->SF} (T:Tf K mg x st) (S:FnScope N1 ps (Zad st))
  (hbd:∀ (kV doc pm:Vb) (an:Option Ve) (cdv ct:Vb) (us:List Vb),us.length=ps.length->Ucs (Wbi x x (Zcu st) (Za8 st) (Zad st) .none kV doc pm an cdv ct) ⟨us,[]⟩=pure (ps.zip us))
  (T2:Tf K mg y su) (S2:FnScope N2 qs (Zad su))
  (hbd2:∀ (kV doc pm:Vb) (an:Option Ve) (cdv ct:Vb) (us:List Vb),us.length=qs.length->Ucs (Wbi y y (Zcu su) (Za8 su) (Zad su) .none kV doc pm an cdv ct) ⟨us,[]⟩=pure (qs.zip us))
  (hb:∀ (F1 F2:FF) (j:Nat),Fn P w K mg base (k+1+j) x ps F1->Fn P w K mg base (k+1+j) y qs F2->∀ (f:Ve) (cdv:Vb) (A:Vt) (outer:List Env) (s:Vd) (H:Hp) (E:XK),Room (k+1+j) (A.deeper (Uba x (Zad st) s.heap.objs.size f cdv)) ->
   Zp0 (Zmk CX0 P w K mg base N1 x (Zad st) f cdv A outer s H E).nox (Za8 st) (a F1 F2))
  (hb2:∀ (F1 F2:FF) (j:Nat),Fn P w K mg base (k+1+j) x ps F1->Fn P w K mg base (k+1+j) y qs F2->∀ (f:Ve) (cdv:Vb) (A:Vt) (outer:List Env) (s:Vd) (H:Hp) (E:XK),Room (k+1+j) (A.deeper (Uba y (Zad su) s.heap.objs.size f cdv)) ->
   Zp0 (Zmk CX0 P w K mg base N2 y (Zad su) f cdv A outer s H E).nox (Za8 su) (b F1 F2)) :
  ∀ j,Fn P w K mg base (k+1+j) x ps (Zei ps.length N1.length qs.length N2.length a b j).1/\Fn P w K mg base (k+1+j) y qs (Zei ps.length N1.length qs.length N2.length a b j).2
 | 0=>by
  rw[Zei]
  dsimp only
  refine⟨Za7 (k:=k) T S hbd fun f cdv A outer s H E _=>?_,Za7 (k:=k) T2 S2 hbd2 fun f cdv A outer s H E _=>?_⟩
  ·rintro pins s' σ H' E' I ⟨ι,σd,Hd,fl,σd',Hd',_,_,e,_⟩
   cases e
  ·rintro pins s' σ H' E' I ⟨ι,σd,Hd,fl,σd',Hd',_,_,e,_⟩
   cases e
 | j+1=>by
  obtain⟨h1,h2⟩:=Zoo T S hbd T2 S2 hbd2 hb hb2 j
  rw[Zei]
  dsimp only
  exact⟨Za7 (k:=k+1+j) T S hbd fun f cdv A outer s H E hr=>hb _ _ j h1 h2 f cdv A outer s H E hr,Za7 (k:=k+1+j) T2 S2 hbd2 fun f cdv A outer s H E hr=>hb2 _ _ j h1 h2 f cdv A outer s H E hr⟩
nonrec def sWh (t:TF) (b:SF):Nat->SF
 | 0=>fun _ _=>none
 | n+1=>fun σ H=>(t σ H).bind fun p=>if p.1=true then (b σ p.2).bind fun q=>match q.1 with
   | .nx=>sWh t b n q.2.1 q.2.2
   | .ct=>sWh t b n q.2.1 q.2.2
   | .bk=>some (.nx,q.2.1,q.2.2)
   | .rt d=>some (.rt d,q.2.1,q.2.2)
  else some (.nx,σ,p.2)
section
variable {X:Cx} {c:Vw} {pos:Pos}
theorem Zt1 {body:List Uab} {t:TF} {b:SF} {n:Nat} (hp:Udw (Vm X.prog X.w) X.A X.env X.xe) (hc:PTf X c t) (hb:Zp0 X body b):PSf X (.While c body [] pos) (sWh t b n):=by
 refine PSi (Zw6 hp hc hb) fun E σ H zz=>?_
 obtain⟨ι,σd,Hd,fl,σf,Hf,s,hr,e,q⟩:=zz
 refine⟨fun m σ' H'=>∃ ι' σd' Hd',Le X.K H ι H' ι'/\SRep X.K H' ι' σ' σd'/\HRep X.K H' ι' Hd'/\sWh t b m σd' Hd'=some (fl,σf,Hf),⟨n,ι,σd,Hd,Le.refl,s,hr,e⟩,?_⟩
 rintro m σ1 H1 ⟨ι1,σd1,Hd1,l1,s1,h1,e1⟩
 cases m with
 | zero=>cases e1
 | succ m =>
  rw[sWh] at e1
  obtain⟨⟨x,H2⟩,e2,e1⟩:=Zo e1
  refine⟨ι1,σd1,Hd1,x,H2,s1,h1,e2,fun H3 ι3 l3 h3=>?_⟩
  cases x with
  | true =>
   rw[if_pos rfl]
   dsimp only at e1
   rw[if_pos rfl] at e1
   obtain⟨⟨f4,σ4,H4⟩,e4,e1⟩:=Zo e1
   refine⟨fun σ' H'=>∃ ι' σd' Hd',Le X.K H ι H' ι'/\SRep X.K H' ι' σ' σd'/\HRep X.K H' ι' Hd'/\sWh t b m σd' Hd'=some (fl,σf,Hf),fun σ' H' p=>⟨m,Nat.lt_succ_self m,p⟩,?_⟩
   refine⟨ι3,σd1,H2,f4,σ4,H4,s1.mono l3,h3,e4,fun σ6 H6 ι6 l6 h6 s6=>?_⟩
   have L:Le X.K H ι H6 ι6:=(l1.trans l3).trans l6
   cases f4 with
   | nx=>exact⟨ι6,σ4,H4,L,s6,h6,e1⟩
   | ct=>exact⟨ι6,σ4,H4,L,s6,h6,e1⟩
   | bk=>cases e1; exact q σ6 H6 ι6 L h6 s6
   | rt d=>cases e1; exact q σ6 H6 ι6 L h6 s6
  | false =>
   rw[if_neg (by simp)]
   dsimp only at e1
   rw[if_neg (by simp)] at e1
   cases e1
   exact q σ1 H3 ι3 (l1.trans l3) h3 (s1.mono l3)
end
nonrec def Zk6 (h:Uaa) (L:Ve):List (Ve×Obj):=(Wcv h.objs.size).filterMap fun a=>if a=L then none else (h.get? a).map fun o=>(a,o)
theorem Zmi {h:Uaa} {L b:Ve} {o:Obj} (hb:b≠L) (e:h.get? b=some o):(b,o)∈Zk6 h L:=by
 refine Wcx.mpr ⟨b,Wbk.mpr (Xe e),?_⟩
 rw[if_neg hb,e]; rfl
theorem Zet {h:Uaa} {L:Ve} {p:Ve×Obj} (hp:p∈Zk6 h L):h.get? p.1=some p.2/\p.1≠L:=by
 obtain⟨a,_,e⟩:=Wcx.mp hp
 split at e
 ·cases e
 ·rename_i ne
  obtain⟨o,e1,rfl⟩:=Zm e
  exact⟨e1,ne⟩
theorem Zhm (b:Ve):({}:Uaa).get? b=none:=by
 cases e:({}:Uaa).get? b with
 | none=>rfl
 | some o=>exact absurd (Xe e) (Wfv _)
nonrec def Zhg (i:Int):Int:=if i<0 then -i else i
section
variable {prog:Vi} {w:Vu} {A:Vt} {E:Vb->Vd->Prop} {s:Vd}
theorem Zwm {l L:Ve} {vs:List Vb} {ns:List Int} {m:Str->Option Vb} {Q:Vb->Vd->Prop} (hn:s.heap.Ns L m) (hI:Uax vs ns) (h64:vs.length<64)
  (hcol:∀ R:List Vb->Vd->Prop,R vs { s with heap:=(s.heap.push (Uas "list" #[] 0)).update s.heap.objs.size (Tax (· ++ vs.toArray)) }->Vf (Vm prog w) A.in1 (collect (.ref l)) R E s)
  (h:∀ h' tk out c,h'.Ns L m->(∀ b o,b≠L->s.heap.get? b=some o->h'.get? b=some o)->h'.get? (s.heap.objs.size+1)=some (Uas "list" out c)->KskOut false (ns.map Zhg) vs out.toList->Q (.ref (s.heap.objs.size+1)) { s with heap:=h',toks:=tk }) :
  Vf (Vm prog w) A (call (.builtin "sorted") [.ref l] [(Ua "key",.builtin "abs")]) Q E s:=by
 have sl:vs.length<=sizeLine:=by rw[Ubb]; omega
 have le:ns.length=vs.length:=hI.length.symm
 have lt:=hn.lt
 let h1:Uaa:=(s.heap.push (Uas "list" #[] 0)).update s.heap.objs.size (Tax (· ++ vs.toArray))
 have z1:h1.objs.size=s.heap.objs.size+1:=(Heap.size_update ..).trans (size_push' ..)
 have at2:(h1.push (Uas "list" vs.toArray 0)).get? (s.heap.objs.size+1)=some (Uas "list" vs.toArray 0):=by rw[<- z1]; exact Xf _ rfl
 have kp:∀ b o,s.heap.get? b=some o->(h1.push (Uas "list" vs.toArray 0)).get? b=some o:=fun b o q=>by
  have hb:b<s.heap.objs.size:=Xe q
  refine Xa _ ?_
  show Heap.get? (Heap.update _ _ _) b=some o
  rw[Heap.get?_update_ne _ _ _ _ (Xi hb)]
  exact Xa _ q
 have F0:Fr {} L s.heap m:=⟨hn,fun b o e=>absurd ((Zhm b).symm.trans e) (by simp),Wbm _⟩
 have N0:News {} L s.heap (Zk6 s.heap L):=fun p hp=>⟨(Zet hp).1,(Zet hp).2,Zhm _⟩
 refine Ucg kind_sorted plain_sorted entry_sorted (ksk_s1 _ _) ?_
 unfold Builtin.«sorted»
 refine Va (m:=checkCount "sorted" 1 1 _) (Vc (Va (hcol _ (Va (Uby ?_ sl)))))
 show Vf _ _ _ _ _ { s with heap:=h1.push (Uas "list" vs.toArray 0) }
 rw[show ((s.heap.push (Uas "list" #[] 0)).update s.heap.objs.size (Tax (· ++ vs.toArray))).objs.size=s.heap.objs.size+1 from z1]
 refine Va (Uae (Udh slot_list_sort ⟨_,at2,rfl⟩ entry_list_sort ?body (ksk_l1 _ _)))
 case body =>
  show Vf (Vm prog w) A.in1.in1 (Builtin.«list.sort» ⟨[.ref (s.heap.objs.size+1)],[(Ua "key",.builtin "abs")]⟩) _ _ _
  rw[ksk_t4]
  refine ksk_sort (s:={ s with heap:=h1.push (Uas "list" vs.toArray 0) }) (kz:=ns.map Zhg) (news:=Zk6 s.heap L) (F0.kept kp) (N0.grown kp) at2 (Wbt (Wcb lt)) (Zhm _) (fun p hp=>Xi (Wcb (Xe (Zet hp).1)))
   (by rw[Xo]; exact le) h64 (fun i v k hv hk hh tk own F N=>?_) fun h' tk out c F' N' K'=>⟨_,rfl,?_⟩
  ·obtain⟨n,t,rfl,e⟩:=hI.at i v hv
   rw[Xr,e] at hk
   cases hk
   exact Udq fun u tk'=>Tcv F N fun p hp=>hp
  ·refine Vc ⟨_,rfl,h h' tk out c F'.ns (fun b o hb e=>?_) ?_ K'⟩
   ·exact(N' _ (Wao _ (Zmi hb e))).1
   ·exact(N' _ (Wcj ..)).1
theorem Zpn {l:Ve} {vs:List Vb} {R:List Vb->Vd->Prop} (ht:Uee s.heap l vs.toArray) (hz:vs.length<=sizeLine)
  (h:R vs { s with heap:=(s.heap.push (Uas "list" #[] 0)).update s.heap.objs.size (Tax (· ++ vs.toArray)) }):Vf (Vm prog w) A (collect (.ref l)) R E s:=by
 obtain⟨o,ho,hc,n,hd⟩:=ht
 have ho2:(s.heap.push (Uas "list" #[] 0)).get? l=some o:=Xa _ ho
 have hN:(s.heap.push (Uas "list" #[] 0)).get? s.heap.objs.size=some (Uas "list" #[] 0):=Xf _ rfl
 unfold collect
 refine Va (wpAny_runValue (Ubn Ucx (show Vf _ _ (do again (.builtin "list.__iadd__" ⟨[<- Uef [],.ref l],[]⟩)) _ _ s from Va (Uby (Vc ⟨Tcf _ (by decide +kernel),Ubn entry_list_iadd' ?_⟩)))))
 show Vf _ _ (Ut (.ref s.heap.objs.size) (.ref l) (.ref s.heap.objs.size)) _ _ { s with heap:=_ }
 unfold Ut
 refine Va (Ucn (T := "tuple") ⟨o,ho2,hc⟩ ?_)
 rw[if_pos (by simp)]
 refine Va (listItems_at ho2 hd (Va (listItems_at (xs := #[]) (n:=0) hN rfl ?_)))
 rw[if_neg (by simp)]
 refine Va (listUpdate_at (xs := #[]) (n:=0) hN rfl (Vc ?_) (Wbm _) (by show ((#[]:Array Vb)++vs.toArray).size<=sizeLine+1; rw[Array.size_append,Xp]; exact Wag (by simp) (Nat.le_succ_of_le hz)))
 refine Va (wpAny_load (get?_update_seq hN _) ?_)
 show Vf _ _ (pure (((#[]:Array Vb)++vs.toArray).toList)) R E _
 rw[Wfd,List.toList_toArray]
 exact Vc h
end
theorem Yaw {vs:List Vb} {ns:List Int} (h:Uax vs ns):∀ p∈(ns.map Zhg).zip vs,∃ n t,p=(Zhg n,.int n t):=by
 induction h with
 | nil=>intro p hp; simp at hp
 | cons n t _ ih =>
  intro p hp
  rw[Xl,Wck] at hp
  rcases Xj.mp hp with rfl | hp
  ·exact⟨n,t,rfl⟩
  ·exact ih p hp
nonrec def Yca (p:Int×Vb):Int:=match p.2 with
 | .int n _=>n
 | _=>0
theorem Ybv {vs:List Vb} {ns:List Int} (h:Uax vs ns):((ns.map Zhg).zip vs).map Yca=ns:=by
 induction h with
 | nil=>rfl
 | cons n t _ ih=>rw[Xl,Wck,Xl,ih]; rfl
theorem Zqb:∀ ps:List (Int×Vb),(∀ p∈ps,∃ n t,p=(Zhg n,.int n t))->Uax (ps.map Prod.snd) (ps.map Yca)/\(ps.map Yca).map Zhg=ps.map Prod.fst
 | [],_=>⟨.nil,rfl⟩
 | p::ps,h=>by
  obtain⟨n,t,rfl⟩:=h p (by simp)
  obtain⟨a,b⟩:=Zqb ps fun q hq=>h q (by simp[hq])
  exact⟨.cons n t a,by rw[Xl,Xl,Xl,b]; rfl⟩
nonrec def Zda (ns:List Int):List Int:=ns.mergeSort fun a b=>decide (Zhg a<=Zhg b)
theorem Zbv (ns:List Int):(Zda ns).Perm ns:=List.mergeSort_perm ..
theorem Zq4 (ns:List Int):(Zda ns).Pairwise fun a b=>Zhg a<=Zhg b:=by
 have h:=List.pairwise_mergeSort (le:=fun a b:Int=>decide (Zhg a<=Zhg b)) (by intro a b c h1 h2; simp at *; omega) (by intro a b; simp; omega) ns
 exact h.imp (by intro a b h; simpa using h)
theorem Ya3 {x y:List Int} (h:x.map Zhg=y.map Zhg) (hi:∀ a∈x,∀ b∈y,Zhg a=Zhg b->a=b):x=y:=by
 induction x generalizing y with
 | nil=>cases y with
  | nil=>rfl
  | cons _ _=>cases h
 | cons a x ih=>cases y with
  | nil=>cases h
  | cons b y =>
   rw[Xl,Xl] at h
   obtain⟨h1,h2⟩:=Wbe.inj h
   rw[hi a (by simp) b (by simp) h1,ih h2 fun c hc d hd=>hi c (by simp[hc]) d (by simp[hd])]
theorem Zta {ns:List Int} (h:(ns.map Zhg).Nodup):∀ a∈ns,∀ b∈ns,Zhg a=Zhg b->a=b:=by
 induction ns with
 | nil=>intro a ha; cases ha
 | cons n r ih =>
  rw[Xl,Wav] at h
  intro a ha b hb e
  rcases Xj.mp ha with h1 | h1<;>rcases Xj.mp hb with h2 | h2
  ·rw[h1,h2]
  ·exact absurd (Xn.mpr ⟨b,h2,by rw[<- e,h1]⟩) h.1
  ·exact absurd (Xn.mpr ⟨a,h1,by rw[e,h2]⟩) h.1
  ·exact ih h.2 a h1 b h2 e
theorem Zy4 {vs out:List Vb} {ns:List Int} (h:Uax vs ns) (hn:(ns.map Zhg).Nodup) (k:KskOut false (ns.map Zhg) vs out):Uax out (Zda ns):=by
 obtain⟨ps,hp,rfl,hw⟩:=k
 obtain⟨a,b⟩:=Zqb ps fun p hp'=>Yaw h p (hp.mem_iff.mp hp')
 have c:(ps.map Yca).Perm ns:=by rw[<- Ybv h]; exact hp.map Yca
 have d:ps.map Yca=Zda ns:=by
  refine Ya3 (Zn4 ((c.map Zhg).trans ((Zbv ns).map Zhg).symm) ?_ ?_) fun x hx y hy e=>Zta hn x (c.mem_iff.mp hx) y ((Zbv ns).mem_iff.mp hy) e
  ·rw[b,Web]; simpa using hw
  ·rw[Web]; exact Zq4 ns
 rw[<- d]; exact a
theorem Zms {X:Cx} {pins:List (Ve×Obj)} {σ:L2.St} {H:Hp} {s:Vd} {h':Uaa} {a:Ve} {o:HO} {t':Nat} (I:Inv X pins σ H s) (k:∀ b u,b≠X.env.locals->s.heap.get? b=some u->h'.get? b=some u)
  (ns:∀ m,s.heap.Ns X.env.locals m->h'.Ns X.env.locals m) (hp:s.heap.objs.size<=a) (new:Zde X.prog X.w (upd H a o) h' a o):Inv X pins σ (upd H a o) { s with heap:=h',toks:=t' }:=by
 have hn:=I.hok.fresh hp
 have there:∀ b u,s.heap.get? b=some u->∃ o',h'.get? b=some o':=fun b u e=>by
  by_cases hb:b=X.env.locals
  ·subst hb
   obtain⟨m,hm,_⟩:=I.loc
   obtain⟨o,_,_,ho,_⟩:=ns m hm
   exact⟨o,ho⟩
  ·exact⟨u,k b u hb e⟩
 refine I.step (g':=s.gens) (d':=s.drawn) (ch:=[]) (fun _ z=>nomatch z) (fun b u hb _ _ e _=>k b u hb e) (fun b u hb _ _ e _=>⟨u.slots,k b u hb e⟩) (fun b u _ e n=>?_) (fun b u _ e=>there b u e) (fun b xs q=>?_) (fun b u xs q=>?_) (fun b ps q=>⟨#[],?_⟩) ns (fun b u e=>?_) I.bare
 ·rw[Zah (Xi (Xk (Xe e) hp))]; exact n
 ·rw[Zah (Zai q hn)]; exact q
 ·rw[Zah (Zai q hn)]; exact q
 ·rw[Zah (Zai q hn),q]; simp
 ·by_cases hb:b=a
  ·subst hb; rw[Zas] at e; cases e; exact new
  ·rw[Zah hb] at e
   have nL:∀ c,(c=b\/H c=some (.own b))->c≠X.env.locals:=fun c hc z=>by
    subst z
    have:=I.free
    rcases hc with rfl | hc
    ·rw[this] at e; cases e
    ·rw[this] at hc; cases hc
   exact(I.hok b u e).stay (fun c v hc q=>k c v (nL c hc) q) (fun c q=>by rw[Zah (Zai q hn)]; exact q) fun c xs q=>by rw[Zah (Zai q hn)]; exact q
nonrec def Zk4:FF:=fun ds H=>match ds with
 | [d]=>(Zmh d H).bind fun xs=>(Zhs xs).bind fun ns=>if ns.length<64/\(ns.map Zhg).Nodup then some (.ref H.length,H++[.lst ((Zda ns).map .int)]) else none
 | _=>none
theorem Zmo {X:Cx} {a:Vw} {f:AF} {p p2 kp pos:Pos} (hg:Gl X "sorted") (hm:X.mg "sorted" = none) (hg2:Gl X "abs") (hm2:X.mg "abs" = none) (ha:PAf X [a] f) (hs:Vg [a] X.env=[(false,eval a X.env)]:=by rfl) :
  PEf X (.Call (.Name "sorted" p) [a] [⟨some "key",.Name "abs" p2,kp⟩] pos) (eCB Zk4 f):=by
 rintro pins s σ H Q I ⟨ι,σd,Hd,d,Hd',sr,hr,e,q⟩
 obtain⟨⟨ds,H1⟩,e1,e⟩:=Zo e
 dsimp only at e
 unfold Zk4 at e
 split at e
 ·rename_i d0
  obtain⟨ys,e2,e⟩:=Zo e
  obtain⟨ns,e3,e⟩:=Zo e
  split at e
  ·rename_i hc
   show Vf _ _ (do callWith pos (<- eval (.Name "sorted" p) X.env) [] (Uam pos (Vg [a] X.env)) (Udm pos (Ubl [⟨some "key",.Name "abs" p2,kp⟩] X.env))) _ _ _
   refine Va (Ze5 I hg hm Znq (Ucy (by rw[hs]; rfl) rfl ?_))
   have hA:=ha pos pins s σ H (fun vs H'=>∃ ι',Le X.K H ι H' ι'/\HRep X.K H' ι' H1/\Vj (Rep X.K H' ι') [d0] vs) I ⟨ι,σd,Hd,_,_,sr,hr,e1,fun vs H' ι' l h P=>⟨ι',l,h,P⟩⟩
   rw[hs] at hA ⊢
   refine evalArgs_kwB rfl (thn hA fun us s1 ⟨vs,H2,I2,r2,ι2,l2,h2,P2⟩=>kws_cons (Ze5 I2 hg2 hm2 Zs0 (kws_nil ?_)))
   obtain⟨v,rfl,r⟩:=Zmv P2
   obtain⟨u,rfl,ru⟩:=Zi5 r2
   obtain⟨ad,ws,rfl,hq,P3⟩:=Znr h2 r e2
   cases ru
   have ev:=Zmu e3 P3
   subst ev
   show Vf _ _ (call (.builtin "sorted") [.ref ad] [(Ua "key",.builtin "abs")]) _ _ _
   obtain⟨m,hn,_⟩:=I2.loc
   have Zj5:∃ its:List Vb,Zb7 (ns.map V.int) its/\(∀ R:List Vb->Vd->Prop,R its { s1 with heap:=(s1.heap.push (Uas "list" #[] 0)).update s1.heap.objs.size (Tax (· ++ its.toArray)) }->Vf (Vm X.prog X.w) X.A.in1 (collect (.ref ad)) R X.xe s1):=by
    rcases hq with hq | hq
    ·obtain⟨its,ri,pl,hz⟩:=I2.list hq
     exact⟨its,ri,fun R hR=>collect_list pl.isList hR (by rw[<- ri.length]; exact hz)⟩
    ·obtain⟨its,ri,pl,hz⟩:=I2.tuple hq
     exact⟨its,ri,fun R hR=>Zpn pl (by rw[<- ri.length]; exact hz) hR⟩
   obtain⟨its,ri,hcol⟩:=Zj5
   have il:its.length=ns.length:=by rw[<- ri.length,Xo]
   refine Zwm hn (Zk0 ri) (by omega) hcol fun h' tk out c hn' kk hat K'=>?_
   have hO:=Zy4 (Zk0 ri) hc.2 K'
   have hl:((Zda ns).map V.int).length<=sizeLine:=by
    rw[Xo,(Zbv ns).length_eq]
    have:sizeLine=16777216:=Ubb
    omega
   have hp0:H2 (s1.heap.objs.size+1)=none:=I2.hok.fresh (Wed _)
   refine⟨.ref (s1.heap.objs.size+1),_,Zms (o:=.lst ((Zda ns).map V.int)) I2 kk (fun m' hm'=>by rw[hm'.eq_nsMap,<- hn.eq_nsMap]; exact hn') (Wed _) ⟨hl,out.toList,c,Zmn hO,by simpa using hat⟩,rfl,?_⟩
   have hz2:((Zda ns).map D.int).length<=sizeLine:=by simpa using hl
   exact(Zgm h2 (Zml (Zda ns)) (show mkL ((Zda ns).map D.int) H1=some (d,Hd') by unfold mkL; rw[if_pos hz2,e]) (fun v H' ι' l h r=>q v H' ι' (l2.trans l) h r)).2 _ hp0
  ·cases e
 ·cases e
open Builtin.SmallTypes (nextOf)
def SqI (b:Bool) (h:Uaa) (i l:Ve) (n:Nat):Prop:=∃ o,h.get? i=some o/\o.cls=.type (if b then "list_iterator" else "tuple_iterator")/\o.data=.fields #[.ref l,.int n 0]
def SqX (b:Bool) (h:Uaa) (l:Ve) (xs:Array Vb):Prop:=∃ o,h.get? l=some o/\o.cls=.type (if b then "list" else "tuple")/\∃ n,o.data=.seq xs n
theorem SqI.mv {b:Bool} {h h':Uaa} {i l:Ve} {n:Nat} (x:SqI b h i l n) (k:∀ o,h.get? i=some o->h'.get? i=some o):SqI b h' i l n:=let ⟨o,e,r⟩:=x; ⟨o,k o e,r⟩
theorem SqX.mv {b:Bool} {h h':Uaa} {l:Ve} {xs:Array Vb} (x:SqX b h l xs) (k:∀ o,h.get? l=some o->h'.get? l=some o):SqX b h' l xs:=let ⟨o,e,r⟩:=x; ⟨o,k o e,r⟩
theorem SqI.lt {b:Bool} {h:Uaa} {i l:Ve} {n:Nat} (x:SqI b h i l n):i<h.objs.size:=let ⟨_,e,_⟩:=x; Xe e
section
variable {prog:Vi} {w:Vu} {A:Vt} {E:Vb->Vd->Prop} {s:Vd}
theorem Zl4 {b:Bool} {i l:Ve} {n:Nat} {xs:Array Vb} {x:Vb} {Q:Vb->Vd->Prop} (hi:SqI b s.heap i l n) (hl:SqX b s.heap l xs) (hx:xs[n]? = some x)
  (hQ:∀ h',SqI b h' i l (n+1)->Wad i s.heap h'->Q x { s with heap:=h' }):Vf (Vm prog w) A (nextOf (.ref i)) Q E s:=by
 cases b
 ·exact Zqm hi hl hx hQ
 ·exact wpAny_nextOf_list_item hi hl hx hQ
theorem Ztx {b:Bool} {i l:Ve} {n:Nat} {xs:Array Vb} {Q:Vb->Vd->Prop} (hh:A.handled=none) (hi:SqI b s.heap i l n) (hl:SqX b s.heap l xs) (hx:xs[n]? = none)
  (hE:∀ h' e,Wdp i s.heap h'->(∃ o,h'.get? e=some o/\o.cls=.type "StopIteration")->E (.ref e) { s with heap:=h' }):Vf (Vm prog w) A (nextOf (.ref i)) Q E s:=by
 cases b
 ·exact Zu5 hh hi hl hx hE
 ·exact wpAny_nextOf_list_end hh hi hl hx hE
variable {z TI TO i1 i2 l1 l2:Ve} {k1 k2:Nat} {xs ys:Array Vb} {b1 b2:Bool}
theorem Yd3 {x y a b:Vb} {Q:Vb->Vd->Prop} (D:Udo z TI TO i1 i2 l1 l2) (hz:Udi s.heap z TI TO .none) (hTI:Uat s.heap TI (.ref i1) (.ref i2)) (hTO:Uat s.heap TO a b)
  (h1:SqI b1 s.heap i1 l1 k1) (h2:SqI b2 s.heap i2 l2 k2) (hl1:SqX b1 s.heap l1 xs) (hl2:SqX b2 s.heap l2 ys) (hx:xs[k1]? = some x) (hy:ys[k2]? = some y)
  (hQ:∀ h',Udi h' z TI TO (Uag s.heap.objs.size)->Uat h' TO x y->SqI b1 h' i1 l1 (k1+1)->SqI b2 h' i2 l2 (k2+1)->Uat h' s.heap.objs.size x y->h'.objs.size=s.heap.objs.size+1 ->
   (∀ c o,c≠z->c≠TO->c≠i1->c≠i2->s.heap.get? c=some o->h'.get? c=some o)->Q (.ref s.heap.objs.size) { s with heap:=h' }) :
  Vf (Vm prog w) A (Builtin.«zip.__next__» ⟨[.ref z],[]⟩) (fun fin s'=>∃ v,fin=.done (.ret v)/\Q v s') E s:=by
 show Vf _ _ (Udg (.ref z) 2 >>= _) _ _ s
 refine Va (Vn hz rfl (x:=.bool false) rfl (show Vf _ _ (Udg (.ref z) 3 >>= _) _ _ _ from Va (Vn hz rfl (x:=.ref TI) rfl (Va (Uah hTI rfl ?_)))))
 show Vf _ _ (Uc (.ref z) >>= _) _ E s
 unfold Uc
 refine Va (Va (Vn hz rfl (x:=.none) rfl (Vc ?_)))
 simp only[if_true]
 refine Va (Ubd (Va (Vn hz rfl (x:=.ref TO) rfl (Va (Vk hz (by simp) fun g1 (e1:Udi g1 z TI TO .ellipsis) t1=>Va ?_)))))
 simp only[Wft,Wfw,Wek,Wgb]
 refine Va (Va (Ubz (show Vf _ _ (nextOf (.ref i1) >>= _) _ _ _ from Va (Zl4 (h1.mv fun o e=>t1.extBut _ _ D.i1z e) (hl1.mv fun o e=>t1.extBut _ _ D.l1z e) hx fun g2 n2 t2=>Vc ?_))))
 have p2:Uat g2 TO a b:=t2.extBut _ _ D.TOi1 (t1.extBut _ _ D.TOz hTO)
 refine Va (Uah p2 rfl (Va (Ubi p2 fun g3 (p3:Uat g3 TO x b) t3=>Va (Ubm (Vc ?_)))))
 refine Va (Va (Ubz (show Vf _ _ (nextOf (.ref i2) >>= _) _ _ _ from Va (Zl4 (h2.mv fun o e=>t3.extBut _ _ D.TOi2.symm (t2.extBut _ _ D.i12.symm (t1.extBut _ _ D.i2z e))) (hl2.mv fun o e=>t3.extBut _ _ D.l2TO (t2.extBut _ _ D.l2i1 (t1.extBut _ _ D.l2z e))) hy fun g4 n4 t4=>Vc ?_))))
 have p4:Uat g4 TO x b:=t4.extBut _ _ D.TOi2 p3
 refine Va (Uah p4 rfl (Va (Ubi p4 fun g5 (p5:Uat g5 TO x y) t5=>Va (Ubm (Vc (Vc ?_))))))
 have sz:g5.objs.size=s.heap.objs.size:=by rw[t5.1,t4.1,t3.1,t2.1,t1.1]
 have e5:Udi g5 z TI TO .ellipsis:=t5.extBut _ _ D.TOz.symm (t4.extBut _ _ D.i2z.symm (t3.extBut _ _ D.TOz.symm (t2.extBut _ _ D.i1z.symm e1)))
 have kp5:∀ c o,c≠z->c≠TO->c≠i1->c≠i2->s.heap.get? c=some o->g5.get? c=some o:=fun c o c1 c2 c3 c4 e=>t5.extBut _ _ c2 (t4.extBut _ _ c4 (t3.extBut _ _ c2 (t2.extBut _ _ c3 (t1.extBut _ _ c1 e))))
 have n15:SqI b1 g5 i1 l1 (k1+1):=n2.mv fun o e=>t5.extBut _ _ D.TOi1.symm (t4.extBut _ _ D.i12 (t3.extBut _ _ D.TOi1.symm e))
 have n25:SqI b2 g5 i2 l2 (k2+1):=n4.mv fun o e=>t5.extBut _ _ D.TOi2.symm e
 have zl:z<g5.objs.size:=Xe e5
 refine Va (Uah p5 rfl (Va (Uda ?_)))
 show Vf _ _ (Ud (.ref z) (.ref g5.objs.size) >>= _) _ _ { s with heap:=_ }
 have e6:Udi (g5.push { cls:=.type "tuple",data:=.seq #[x,y] }) z TI TO .ellipsis:=Xa _ e5
 unfold Ud
 refine Va (Va (Vk e6 (by simp) fun g7 (e7:Udi g7 z TI TO (Uag g5.objs.size)) t7=>Vk e7 (by simp) fun g8 (e8:Udi g8 z TI TO (Uag g5.objs.size)) t8=>?_))
 have up:∀ c o,c≠z->g5.get? c=some o->g8.get? c=some o:=fun c o c1 e=>t8.extBut _ _ c1 (t7.extBut _ _ c1 (Xa _ e))
 have p8:Uat g8 g5.objs.size x y:=t8.extBut _ _ (Wbt zl) (t7.extBut _ _ (Wbt zl) (Xf _ rfl))
 have s8:g8.objs.size=g5.objs.size+1:=by rw[t8.1,t7.1,Way]
 rw[sz] at e8 p8 s8
 refine Vc ⟨.ref g5.objs.size,rfl,?_⟩
 rw[sz]
 exact hQ g8 e8 (up _ _ D.TOz p5) (n15.mv fun o e=>up _ o D.i1z e) (n25.mv fun o e=>up _ o D.i2z e) p8 s8 fun c o c1 c2 c3 c4 e=>up c o c1 (kp5 c o c1 c2 c3 c4 e)
theorem Yev {a b:Vb} {Q:PySem.Fin->Vd->Prop} (hh:A.handled=none) (D:Udo z TI TO i1 i2 l1 l2) (hz:Udi s.heap z TI TO .none) (hTI:Uat s.heap TI (.ref i1) (.ref i2)) (hTO:Uat s.heap TO a b)
  (h1:SqI b1 s.heap i1 l1 k1) (h2:SqI b2 s.heap i2 l2 k2) (hl1:SqX b1 s.heap l1 xs) (hl2:SqX b2 s.heap l2 ys) (hend:xs[k1]? = none\/ys[k2]? = none)
  (hE:∀ h' e,(∀ c o,c≠z->c≠TO->c≠i1->c≠i2->s.heap.get? c=some o->h'.get? c=some o)->(∃ o,h'.get? e=some o/\o.cls=.type "StopIteration")->E (.ref e) { s with heap:=h' }) :
  Vf (Vm prog w) A (Builtin.«zip.__next__» ⟨[.ref z],[]⟩) Q E s:=by
 show Vf _ _ (Udg (.ref z) 2 >>= _) _ _ s
 refine Va (Vn hz rfl (x:=.bool false) rfl (show Vf _ _ (Udg (.ref z) 3 >>= _) _ _ _ from Va (Vn hz rfl (x:=.ref TI) rfl (Va (Uah hTI rfl ?_)))))
 show Vf _ _ (Uc (.ref z) >>= _) _ E s
 unfold Uc
 refine Va (Va (Vn hz rfl (x:=.none) rfl (Vc ?_)))
 simp only[if_true]
 refine Va (Ubd (Va (Vn hz rfl (x:=.ref TO) rfl (Va (Vk hz (by simp) fun g1 (e1:Udi g1 z TI TO .ellipsis) t1=>Va ?_)))))
 simp only[Wft,Wfw,Wek,Wgb]
 refine Va (Va (Ubz (show Vf _ _ (nextOf (.ref i1) >>= _) _ _ _ from ?_)))
 have hi1:=h1.mv (h':=g1) fun o e=>t1.extBut _ _ D.i1z e
 have hq1:=hl1.mv (h':=g1) fun o e=>t1.extBut _ _ D.l1z e
 cases hx:xs[k1]? with
 | none =>
  refine Va (Ztx hh hi1 hq1 hx fun g2 e t2 zz=>?_)
  obtain⟨oe,ho,hc⟩:=zz
  have e2:Udi g2 z TI TO .ellipsis:=t2 _ _ D.i1z.symm e1
  have ne:e≠z:=fun q=>by subst q; rw[e2] at ho; cases ho; simp at hc
  exact Vk e2 (by simp) fun g3 _ t3=>hE g3 e (fun c o c1 _ c3 _ q=>t3.extBut _ _ c1 (t2 _ _ c3 (t1.extBut _ _ c1 q))) ⟨oe,t3.extBut _ _ ne ho,hc⟩
 | some x =>
  have hy:ys[k2]? = none:=hend.resolve_left fun q=>by rw[hx] at q; cases q
  refine Va (Zl4 hi1 hq1 hx fun g2 n2 t2=>Vc ?_)
  have p2:Uat g2 TO a b:=t2.extBut _ _ D.TOi1 (t1.extBut _ _ D.TOz hTO)
  refine Va (Uah p2 rfl (Va (Ubi p2 fun g3 _ t3=>Va (Ubm (Vc ?_)))))
  refine Va (Va (Ubz (show Vf _ _ (nextOf (.ref i2) >>= _) _ _ _ from Va (Ztx hh (h2.mv fun o e=>t3.extBut _ _ D.TOi2.symm (t2.extBut _ _ D.i12.symm (t1.extBut _ _ D.i2z e))) (hl2.mv fun o e=>t3.extBut _ _ D.l2TO (t2.extBut _ _ D.l2i1 (t1.extBut _ _ D.l2z e))) hy fun g4 e t4 zz=>?_))))
  obtain⟨oe,ho,hc⟩:=zz
  have e4:Udi g4 z TI TO .ellipsis:=t4 _ _ D.i2z.symm (t3.extBut _ _ D.TOz.symm (t2.extBut _ _ D.i1z.symm e1))
  have ne:e≠z:=fun q=>by subst q; rw[e4] at ho; cases ho; simp at hc
  exact Vk e4 (by simp) fun g5 _ t5=>hE g5 e (fun c o c1 c2 c3 c4 q=>t5.extBut _ _ c1 (t4 _ _ c4 (t3.extBut _ _ c2 (t2.extBut _ _ c3 (t1.extBut _ _ c1 q))))) ⟨oe,t5.extBut _ _ ne ho,hc⟩
theorem Yd1 {x y a b:Vb} {Q:Option Vb->Vd->Prop} (D:Udo z TI TO i1 i2 l1 l2) (hz:Udi s.heap z TI TO .none) (hTI:Uat s.heap TI (.ref i1) (.ref i2)) (hTO:Uat s.heap TO a b)
  (h1:SqI b1 s.heap i1 l1 k1) (h2:SqI b2 s.heap i2 l2 k2) (hl1:SqX b1 s.heap l1 xs) (hl2:SqX b2 s.heap l2 ys) (hx:xs[k1]? = some x) (hy:ys[k2]? = some y)
  (hQ:∀ h',Udi h' z TI TO (Uag s.heap.objs.size)->Uat h' TO x y->SqI b1 h' i1 l1 (k1+1)->SqI b2 h' i2 l2 (k2+1)->Uat h' s.heap.objs.size x y->h'.objs.size=s.heap.objs.size+1 ->
   (∀ c o,c≠z->c≠TO->c≠i1->c≠i2->s.heap.get? c=some o->h'.get? c=some o)->Q (some (.ref s.heap.objs.size)) { s with heap:=h' }):Vf (Vm prog w) A (Ubg (.ref z)) Q E s:=by
 have ty:s.TypeIs (.ref z) "zip" := ⟨_,hz,rfl⟩
 unfold Ubg
 exact Va (Ual (Vh (name:=Ua "__next__") ty Tbc (Vo Tbc ty F.entry_zip_next (Yd3 D hz hTI hTO h1 h2 hl1 hl2 hx hy fun h' a1 a2 a3 a4 a5 a6 a7=>Vc (hQ h' a1 a2 a3 a4 a5 a6 a7)) (Tck _))))
theorem Ydd {a b:Vb} {Q:Option Vb->Vd->Prop} (hh:A.handled=none) (D:Udo z TI TO i1 i2 l1 l2) (hz:Udi s.heap z TI TO .none) (hTI:Uat s.heap TI (.ref i1) (.ref i2)) (hTO:Uat s.heap TO a b)
  (h1:SqI b1 s.heap i1 l1 k1) (h2:SqI b2 s.heap i2 l2 k2) (hl1:SqX b1 s.heap l1 xs) (hl2:SqX b2 s.heap l2 ys) (hend:xs[k1]? = none\/ys[k2]? = none)
  (hQ:∀ h',(∀ c o,c≠z->c≠TO->c≠i1->c≠i2->s.heap.get? c=some o->h'.get? c=some o)->Q none { s with heap:=h' }):Vf (Vm prog w) A (Ubg (.ref z)) Q E s:=by
 have ty:s.TypeIs (.ref z) "zip" := ⟨_,hz,rfl⟩
 unfold Ubg
 refine Va (Ual (Vh (name:=Ua "__next__") ty Tbc (Vo Tbc ty F.entry_zip_next (Yev hh D hz hTI hTO h1 h2 hl1 hl2 hend fun h' e hk zz=>?_) (Tck _))))
 obtain⟨o,ho,hc⟩:=zz
 exact Va (Ubh (T := "StopIteration") (b:=true) ⟨o,ho,hc⟩ Ubv (Vc (hQ _ hk)))
nonrec def itO (b:Bool) (l:Ve):Obj:={ cls:=.type (if b then "list_iterator" else "tuple_iterator"),data:=.fields #[.ref l,.int 0 0] }
theorem Zs2 {b:Bool} {l:Ve} {xs:Array Vb} {Q:Vb->Vd->Prop} (hl:SqX b s.heap l xs) (h:Q (.ref s.heap.objs.size) { s with heap:=s.heap.push (itO b l) }):Vf (Vm prog w) A (pyIter (.ref l)) Q E s:=by
 cases b
 ·exact Uaz hl h
 ·exact Uak hl h
nonrec def zh2 (h:Uaa) (b1 b2:Bool) (l1 l2:Ve):Uaa:=(h.push (itO b1 l1)).push (itO b2 l2)
nonrec def zh4 (h:Uaa) (b1 b2:Bool) (l1 l2:Ve):Uaa:=((zh2 h b1 b2 l1 l2).push { cls:=.type "tuple",data:=.seq #[.ref h.objs.size,.ref (h.push (itO b1 l1)).objs.size] }).push { cls:=.type "tuple",data:=.seq #[.none,.none] }
nonrec def zh5 (h:Uaa) (b1 b2:Bool) (l1 l2:Ve):Uaa:=(zh4 h b1 b2 l1 l2).push { cls:=.type "zip",data:=.fields #[.none,.bool false,.bool false,.ref (zh2 h b1 b2 l1 l2).objs.size,.ref ((zh2 h b1 b2 l1 l2).push { cls:=.type "tuple",data:=.seq #[.ref h.objs.size,.ref (h.push (itO b1 l1)).objs.size] }).objs.size] }
theorem Zx0 (b1 b2:Bool) (l1 l2:Ve) (xs ys:Array Vb):Meets (Builtin.«zip.__new__» ⟨[.type "zip",.ref l1,.ref l2],[]⟩) (fun _ R s=>SqX b1 s.heap l1 xs/\SqX b2 s.heap l2 ys/\R (.ok (.ret (.ref (zh4 s.heap b1 b2 l1 l2).objs.size))) { s with heap:=zh5 s.heap b1 b2 l1 l2 }) :=
 .of_wp fun prog w A R s h=>by
  obtain⟨hp,g,d,tk,os⟩:=s; obtain⟨m1,m2,h⟩:=h
  have sb:=sub_zip
  have M1:SqX b1 (Tcc ⟨hp,g,d,tk,os⟩) l1 xs:=m1
  have M2:SqX b2 (Tcc ⟨hp.push (itO b1 l1),g,d,tk,os⟩) l2 ys:=m2.mv fun o e=>Xa _ e
  wp_walk using Zs2 M1,Zs2 M2
  exact⟨_,rfl,h⟩
theorem Ztp {b1 b2:Bool} {l1 l2:Ve} {xs ys:Array Vb} {Q:Vb->Vd->Prop} (m1:SqX b1 s.heap l1 xs) (m2:SqX b2 s.heap l2 ys)
  (h:∀ h',Udi h' (s.heap.objs.size+4) (s.heap.objs.size+2) (s.heap.objs.size+3) .none->Uat h' (s.heap.objs.size+2) (.ref s.heap.objs.size) (.ref (s.heap.objs.size+1))->Uat h' (s.heap.objs.size+3) .none .none ->
   SqI b1 h' s.heap.objs.size l1 0->SqI b2 h' (s.heap.objs.size+1) l2 0->(∀ c o,s.heap.get? c=some o->h'.get? c=some o)->Q (.ref (s.heap.objs.size+4)) { s with heap:=h' }) :
  Vf (Vm prog w) A (call (.type "zip") [.ref l1,.ref l2]) Q E s:=by
 refine Uds F.called_zip (by decide) (F.typeCall_zip_2 _ _) (F.newCall_zip_2 _ _) (fun obj=>F.args_object_init_3 obj _ _) F.entry_zip_new (Zx0 b1 b2 l1 l2 xs ys) ⟨m1,m2,?_⟩
 let n:=s.heap.objs.size
 have s1:(s.heap.push (itO b1 l1)).objs.size=n+1:=Way ..
 have s2:(zh2 s.heap b1 b2 l1 l2).objs.size=n+2:=(Way ..).trans (by rw[s1])
 have s3:((zh2 s.heap b1 b2 l1 l2).push { cls:=.type "tuple",data:=.seq #[.ref s.heap.objs.size,.ref (s.heap.push (itO b1 l1)).objs.size] }).objs.size=n+3:=(Way ..).trans (by rw[s2])
 have s4:(zh4 s.heap b1 b2 l1 l2).objs.size=n+4:=(Way ..).trans (by rw[s3])
 have g5:(zh5 s.heap b1 b2 l1 l2).get? (zh4 s.heap b1 b2 l1 l2).objs.size=some _:=Xf _ rfl
 have g4:(zh5 s.heap b1 b2 l1 l2).get? ((zh2 s.heap b1 b2 l1 l2).push { cls:=.type "tuple",data:=.seq #[.ref s.heap.objs.size,.ref (s.heap.push (itO b1 l1)).objs.size] }).objs.size=some _:=Xa _ (Xf _ rfl)
 have g3:(zh5 s.heap b1 b2 l1 l2).get? (zh2 s.heap b1 b2 l1 l2).objs.size=some _:=Xa _ (Xa _ (Xf _ rfl))
 have g2:(zh5 s.heap b1 b2 l1 l2).get? (s.heap.push (itO b1 l1)).objs.size=some (itO b2 l2):=Xa _ (Xa _ (Xa _ (Xf _ rfl)))
 have g1:(zh5 s.heap b1 b2 l1 l2).get? s.heap.objs.size=some (itO b1 l1):=Xa _ (Xa _ (Xa _ (Xa _ (Xf _ rfl))))
 show _/\_
 rw[s2,s3,s4] at g5
 rw[s1,s2] at g3
 rw[s3] at g4
 rw[s1] at g2
 rw[s4]
 exact⟨⟨_,g5,rfl⟩,h _ g5 g3 g4 ⟨_,g1,rfl,rfl⟩ ⟨_,g2,rfl,rfl⟩ fun c o e=>Xa _ (Xa _ (Xa _ (Xa _ (Xa _ e))))⟩
end
def SqB (K:Xb) (b:Bool) (H:Hp) (l:Ve) (xs:List V):Prop:=if b=true then H l=some (.lst xs) else SqT K H l xs
nonrec def Zwk (d:D) (H:HD):Option (List D×Zgy):=match d with
 | .tup xs=>some (xs,[])
 | .ref n=>match H[n]? with
  | some (.lst xs)=>some (xs,[(n,.lst xs)])
  | _=>none
 | _=>none
theorem Zp3 {d:D} {H:HD} {xs:List D} {own:Zgy} (e:Zwk d H=some (xs,own)):Zcb own H:=by
 unfold Zwk at e
 split at e
 ·cases e; intro p hp; cases hp
 ·split at e
  ·rename_i eo
   cases e
   intro p hp
   simp at hp; subst hp; exact eo
  ·cases e
 ·cases e
theorem Zzc {K:Xb} {H:Hp} {ι:List Ve} {Hd:HD} {d:D} {v:V} {xs:List D} {own:Zgy} (r:Rep K H ι d v) (e:Zwk d Hd=some (xs,own)) :
  ∃ b l,v=.ref l/\∀ H2 ι2 Hd2,Le K H ι H2 ι2->HRep K H2 ι2 Hd2->Zcb own Hd2->∃ ws,SqB K b H2 l ws/\Vj (Rep K H2 ι2) xs ws:=by
 unfold Zwk at e
 split at e
 ·cases e
  obtain⟨a,vs,rfl,h,p⟩:=Zbd.mp r
  refine⟨false,a,rfl,fun H2 ι2 Hd2 l2 h2 _=>?_⟩
  obtain⟨a',ws,ea,h',p'⟩:=Zbd.mp (r.mono l2)
  cases ea
  exact⟨ws,h',p'⟩
 ·rename_i n
  split at e
  ·rename_i ys eo
   cases e
   obtain⟨a,rfl,ha⟩:=Za1.mp r
   refine⟨true,a,rfl,fun H2 ι2 Hd2 l2 h2 ok=>?_⟩
   obtain⟨ws,g,p⟩:=h2.obj n a _ (l2.get ha) (ok (n,.lst xs) (by simp))
   exact⟨ws,g,p⟩
  ·cases e
 ·cases e
section
variable {X:Cx} {pins:List (Ve×Obj)} {σ:L2.St} {H:Hp} {s:Vd} {b:Bool} {l:Ve} {xs ys:List V}
theorem Zhy (I:Inv X pins σ H s) (h:SqB X.K b H l xs):∃ its:List Vb,Zb7 xs its/\SqX b s.heap l its.toArray:=by
 cases b with
 | true =>
  obtain⟨its,r,p,_⟩:=I.list (SqL.of (K:=X.K) (show H l=some (.lst xs) from h))
  exact⟨its,r,p.isList⟩
 | false =>
  obtain⟨its,r,p,_⟩:=I.tuple (show SqT X.K H l xs from h)
  exact⟨its,r,p⟩
theorem Zva (I:Inv X pins σ H s) (h:SqB X.K b H l xs) (h':SqB X.K b H l ys):xs=ys:=by
 cases b with
 | true =>
  have e1:H l=some (.lst xs):=h
  have e2:H l=some (.lst ys):=h'
  rw[e1] at e2; cases e2; rfl
 | false=>exact I.tuple_inj (show SqT X.K H l xs from h) h'
theorem Zqq (I:Inv X pins σ H s) (h:SqB X.K b H l xs) {q:Ve} (f:Zlo X pins H q):l≠q:=fun e=>by
 subst e
 have n0:=f.1
 cases b with
 | true =>
  have e1:H l=some (.lst xs):=h
  rw[n0] at e1; cases e1
 | false =>
  rcases(show SqT X.K H l xs from h) with h | ⟨o,its,n,hk,_⟩
  ·rcases h with h | ⟨o,h⟩<;>rw[n0] at h<;>cases h
  ·have e1:=I.ok.mod.kin l o hk
   rcases f.2.2.2.1 with z | z
   ·exact I.ok.noex l o e1 z
   ·exact absurd (Xk (Xe (I.ok.bs l o e1).1) z) (Waz _)
end
nonrec def ItzS (K:Xb) (b1 b2:Bool) (l m:Ve):It :=
 ⟨fun i H=>∃ xs ys x y,SqB K b1 H l xs/\SqB K b2 H m ys/\xs[i]? = some x/\ys[i]? = some y,
  fun i H v H'=>∃ p x y,H p=none/\v=.ref p/\H'=upd H p (.tup [x,y])/\(∀ xs,SqB K b1 H l xs->xs[i]? = some x)/\∀ ys,SqB K b2 H m ys->ys[i]? = some y,
  fun i H=>∃ xs ys,SqB K b1 H l xs/\SqB K b2 H m ys/\(xs.length<=i\/ys.length<=i)⟩
theorem Zvj {P:Vi} {w:Vu} {K:Xb} {es:List Vw} {k:Nat} {pos:Pos} (b1 b2:Bool) (l m z a b c d:Ve) (F5:Five z a b c d) :
  Turn P w K (.Tuple es k pos) (ItzS K b1 b2 l m) [z,a,b,c,d] z (fun i h=>Udi h z a b .none/\Uat h a (.ref c) (.ref d)/\(∃ u v,Uat h b u v)/\SqI b1 h c l i/\SqI b2 h d m i) where
 mem:=by simp
 obj:=fun i h st y hy=>by
  obtain⟨h1,h2,⟨u,v,h3⟩,⟨o4,h4,_,d4⟩,o5,h5,_,d5⟩:=st
  simp only[Xj,Wbq,or_false] at hy
  rcases hy with rfl | rfl | rfl | rfl | rfl
  ·exact⟨_,h1,fun v z=>by cases z⟩
  ·exact⟨_,h2,fun v z=>by cases z⟩
  ·exact⟨_,h3,fun v z=>by cases z⟩
  ·exact⟨o4,h4,fun v z=>by rw[d4] at z; cases z⟩
  ·exact⟨o5,h5,fun v z=>by rw[d5] at z; cases z⟩
 keep:=fun i h h' st kk=>by
  obtain⟨h1,h2,⟨u,v,h3⟩,⟨o4,h4,r4⟩,o5,h5,r5⟩:=st
  exact⟨kk z (by simp) _ h1,kk a (by simp) _ h2,⟨u,v,kk b (by simp) _ h3⟩,⟨o4,kk c (by simp) _ h4,r4⟩,o5,kk d (by simp) _ h5,r5⟩
 item:=by
  intro X hP hw hK hc i pins s σ H E I hf st hg
  subst hP hw hK
  obtain⟨xs,ys,x,y,hl,hm,hx,hy⟩:=hg
  obtain⟨h1,h2,⟨u,v,h3⟩,h4,h5⟩:=st
  obtain⟨its,rv,p1⟩:=Zhy I hl
  obtain⟨jts,rw',p2⟩:=Zhy I hm
  obtain⟨ux,hux,rux⟩:=rv.get hx
  obtain⟨uy,huy,ruy⟩:=rw'.get hy
  have nl:∀ q∈[z,a,b,c,d],l≠q:=fun q hq=>Zqq I hl (hf q hq)
  have nm:∀ q∈[z,a,b,c,d],m≠q:=fun q hq=>Zqq I hm (hf q hq)
  have Ap:Udo z a b c d l m:=⟨F5.az,F5.bz,F5.cz,F5.dz,F5.ab,F5.ac,F5.ad,F5.bc,F5.bd,F5.cd,nl z (by simp),nl b (by simp),nl c (by simp),nl d (by simp),nm z (by simp),nm b (by simp),nm c (by simp),nm d (by simp)⟩
  refine Yd1 Ap h1 h2 h3 h4 h5 p1 p2 (x:=ux) (y:=uy) (by simpa using hux) (by simpa using huy) fun h' g1 g3 g4 g5 g6 g7 kk=>?_
  refine⟨_,rfl,wpAny_letOwnedTupleGo_zip (s:={ s with heap:=h' }) g1 fun h2' g1' s2=>?_⟩
  replace s2:Wad z h' h2':=s2
  have up:∀ q o,q∉[z,b,c,d]->s.heap.get? q=some o->h2'.get? q=some o:=fun q o hq e =>
   s2.extBut q o (fun e=>hq (by simp[e])) (kk q o (fun e=>hq (by simp[e])) (fun e=>hq (by simp[e])) (fun e=>hq (by simp[e])) (fun e=>hq (by simp[e])) e)
  have nz:s.heap.objs.size≠z:=Wbt (Xe h1)
  have hf':∀ q∈[z,b,c,d],Zlo X pins H q:=fun q hq=>hf q (by simp at hq ⊢; rcases hq with rfl | rfl | rfl | rfl<;>simp)
  have t2:h2'.get? s.heap.objs.size=some { cls:=.type "tuple",data:=.seq [ux,uy].toArray 0 }:=s2.extBut _ _ nz g6
  have I2:=Zxl (tk:=s.toks) (vs:=[x,y]) I hf' up t2 (.cons rux (.cons ruy .nil)) (by show 2<=sizeLine; decide)
  have hp0:H s.heap.objs.size=none:=I.hok.fresh (Xd _)
  refine⟨.ref s.heap.objs.size,_,I2,rfl,⟨_,x,y,hp0,rfl,rfl,fun zs hz=>?_,fun zs hz=>?_⟩,⟨g1',?_,⟨ux,uy,?_⟩,?_,?_⟩,fun q hq=>?_⟩
  ·rw[<- Zva I hl hz]; exact hx
  ·rw[<- Zva I hm hz]; exact hy
  ·exact up a _ (by simp[F5.az,F5.ab,F5.ac,F5.ad]) h2
  ·exact s2.extBut _ _ F5.bz g3
  ·exact g4.mv fun o e=>s2.extBut _ _ F5.cz e
  ·exact g5.mv fun o e=>s2.extBut _ _ F5.dz e
  ·have hb2:q≠s.heap.objs.size:=by
    have lt:∀ {q o},s.heap.get? q=some o->q≠s.heap.objs.size:=fun e=>Xi (Xe e)
    simp only[Xj,Wbq,or_false] at hq
    rcases hq with rfl | rfl | rfl | rfl | rfl
    ·exact lt h1
    ·exact lt h2
    ·exact lt h3
    ·exact Xi h4.lt
    ·exact Xi h5.lt
   rw[Zah hb2]; exact(hf q hq).1
 done:=by
  intro X hP hw hK hc i pins s σ H E I hf st hg
  subst hP hw hK
  obtain⟨xs,ys,hl,hm,hx⟩:=hg
  obtain⟨h1,h2,⟨u,v,h3⟩,h4,h5⟩:=st
  obtain⟨its,rv,p1⟩:=Zhy I hl
  obtain⟨jts,rw',p2⟩:=Zhy I hm
  have nl:∀ q∈[z,a,b,c,d],l≠q:=fun q hq=>Zqq I hl (hf q hq)
  have nm:∀ q∈[z,a,b,c,d],m≠q:=fun q hq=>Zqq I hm (hf q hq)
  have Ap:Udo z a b c d l m:=⟨F5.az,F5.bz,F5.cz,F5.dz,F5.ab,F5.ac,F5.ad,F5.bc,F5.bd,F5.cd,nl z (by simp),nl b (by simp),nl c (by simp),nl d (by simp),nm z (by simp),nm b (by simp),nm c (by simp),nm d (by simp)⟩
  have e1:=rv.length
  have e2:=rw'.length
  refine Ydd (I.ok.hd hc) Ap h1 h2 h3 h4 h5 p1 p2 (by simp; omega) fun h' kk=>⟨rfl,Zwn (tk:=s.toks) (ch:=[z,b,c,d]) I (fun q hq=>hf q (by simp at hq ⊢; rcases hq with rfl | rfl | rfl | rfl<;>simp)) fun q o hq e=>?_⟩
  exact kk q o (fun e=>hq (by simp[e])) (fun e=>hq (by simp[e])) (fun e=>hq (by simp[e])) (fun e=>hq (by simp[e])) e
 self:=fun _ _ _ _ _ st h=>wpAny_pyIter_zip st.1 h
nonrec def Zvo (f:AF):ItF:=fun σ H=>(f σ H).bind fun p=>match p.1 with
 | [d1,d2]=>(Zwk d1 p.2).bind fun a=>(Zwk d2 p.2).map fun b=>((Zqc a.1 b.1,a.2++b.2),p.2)
 | _=>none
theorem Zpw {X:Cx} {es:List Vw} {k:Nat} {tp p pos:Pos} {a b:Vw} {f:AF} (hg:Gl X "zip") (hm:X.mg "zip" = none) (ha:PAf X [a,b] f) (hs:Vg [a,b] X.env=[(false,eval a X.env),(false,eval b X.env)]:=by rfl) (hs2:Vg [b] X.env=[(false,eval b X.env)]:=by rfl) :
  PIf X (.Tuple es k tp) (.Call (.Name "zip" p) [a,b] [] pos) (Zvo f):=by
 rintro pins s σ H R I ⟨ι,σd,Hd,xs,own,Hd',sr,hr,e,q⟩
 obtain⟨⟨ds,H1⟩,e1,e⟩:=Zo e
 dsimp only at e
 split at e
 ·rename_i d1 d2
  obtain⟨⟨us,ow1⟩,en,e⟩:=Zo e
  obtain⟨⟨vs,ow2⟩,em,e⟩:=Zm e
  cases e
  refine Call_ (Ze5 I hg hm boot_zip (Ug (thn (ha pos pins s σ H (fun vs H'=>∃ b1 b2 l m xs ys,vs=[.ref l,.ref m]/\SqB X.K b1 H' l xs/\SqB X.K b2 H' m ys/\R (ItzS X.K b1 b2 l m) H') I ⟨ι,σd,Hd,_,_,sr,hr,e1,fun ws H' ι' l h P=>?_⟩) fun us s1 zz=>?_) (by rw[hs,hs2]) (by rw[hs2]; rfl)))
  ·obtain⟨v,v',rfl,r,r'⟩:=Ycr P
   obtain⟨c1,l1,rfl,at1⟩:=Zzc r en
   obtain⟨c2,l2,rfl,at2⟩:=Zzc r' em
   obtain⟨xs1,o1,P1⟩:=at1 H' ι' Hd' Le.refl h (Zp3 en)
   obtain⟨xs2,o2,P2⟩:=at2 H' ι' Hd' Le.refl h (Zp3 em)
   have ok1:∀ {Hd2:HD},Zcb (ow1++ow2) Hd2->Zcb ow1 Hd2:=fun ok p hp=>ok p (by simp[hp])
   have ok2:∀ {Hd2:HD},Zcb (ow1++ow2) Hd2->Zcb ow2 Hd2:=fun ok p hp=>ok p (by simp[hp])
   refine⟨c1,c2,l1,l2,xs1,xs2,rfl,o1,o2,q _ H' ι' l h ⟨fun i H2 ι2 Hd2 l2' h2 ok hi=>?_,fun i H2 ι2 Hd2 d x H3 l2' h2 ok hd y=>?_,fun i H2 ι2 Hd2 l2' h2 ok hi=>?_⟩⟩
   ·obtain⟨ws1,g1,Q1⟩:=at1 H2 ι2 Hd2 l2' h2 (ok1 ok)
    obtain⟨ws2,g2,Q2⟩:=at2 H2 ι2 Hd2 l2' h2 (ok2 ok)
    rw[Zlp] at hi
    dsimp only at hi
    have z1:=Prd.len Q1
    have z2:=Prd.len Q2
    exact⟨ws1,ws2,ws1[i]'(by omega),ws2[i]'(by omega),g1,g2,by simp,by simp⟩
   ·obtain⟨ws1,g1,Q1⟩:=at1 H2 ι2 Hd2 l2' h2 (ok1 ok)
    obtain⟨ws2,g2,Q2⟩:=at2 H2 ι2 Hd2 l2' h2 (ok2 ok)
    obtain⟨p,u1,u2,hp,rfl,rfl,y1,y2⟩:=y
    obtain⟨d1,d2,w1,w2,rfl⟩:=Zqg hd
    obtain⟨c1,k1,t1⟩:=Prd.get Q1 w1
    obtain⟨c2,k2,t2⟩:=Prd.get Q2 w2
    have x1:=y1 _ g1
    have x2:=y2 _ g2
    rw[k1] at x1
    rw[k2] at x2
    cases x1
    cases x2
    exact⟨ι2,Le.fresh hp _,h2.tup hp _,Zbd.mpr ⟨p,_,rfl,SqT.of Zas,.cons (t1.mono (Le.fresh hp _)) (.cons (t2.mono (Le.fresh hp _)) .nil)⟩⟩
   ·obtain⟨ws1,g1,Q1⟩:=at1 H2 ι2 Hd2 l2' h2 (ok1 ok)
    obtain⟨ws2,g2,Q2⟩:=at2 H2 ι2 Hd2 l2' h2 (ok2 ok)
    rw[Zlp] at hi
    dsimp only at hi
    have z1:=Prd.len Q1
    have z2:=Prd.len Q2
    exact⟨ws1,ws2,g1,g2,by omega⟩
  ·obtain⟨vs,H2,I2,r2,q2⟩:=zz
   obtain⟨c1,c2,l,m,xs,ys,rfl,o1,o2,q2⟩:=q2
   obtain⟨u1,u2,rfl,ru1,ru2⟩:=Zxp r2
   cases ru1
   cases ru2
   obtain⟨its,_,p1⟩:=Zhy I2 o1
   obtain⟨jts,_,p2⟩:=Zhy I2 o2
   refine Ztp p1 p2 fun h' hz ha hb hc hd kk=>?_
   have I3:Inv X pins σ H2 { s1 with heap:=h' }:=I2.kept (t':=s1.toks) kk
   refine wpAny_pyIter_zip (s:={ s1 with heap:=h' }) hz ?_
   have ne:∀ {i j:Nat},i≠j->(s1.heap.objs.size+i:Nat)≠s1.heap.objs.size+j:=fun h z=>h (Nat.add_left_cancel z)
   have F5:Five (s1.heap.objs.size+4) (s1.heap.objs.size+2) (s1.heap.objs.size+3) s1.heap.objs.size (s1.heap.objs.size+1) :=
    ⟨ne (by decide),ne (by decide),ne (i:=0) (by decide),ne (by decide),ne (by decide),ne (j:=0) (by decide),ne (by decide),ne (j:=0) (by decide),ne (by decide),ne (i:=0) (by decide)⟩
   refine⟨s1.heap.objs.size+4,[s1.heap.objs.size+4,s1.heap.objs.size+2,s1.heap.objs.size+3,s1.heap.objs.size,s1.heap.objs.size+1],_,ItzS X.K c1 c2 l m,H2,rfl,I3,Zvj c1 c2 l m _ _ _ _ _ F5,⟨hz,ha,⟨_,_,hb⟩,hc,hd⟩,fun b hb=>?_,q2⟩
   have:s1.heap.objs.size<=b:=by
    simp only[Xj,Wbq,or_false] at hb
    rcases hb with rfl | rfl | rfl | rfl | rfl<;>first | exact Nat.le_add_right _ _ | exact Xd _
   exact I2.fpOk (b:=b) (H':=H2) this (I2.hok.fresh this)
 ·cases e
section
variable {X:Cx} {e:Vw} {pos:Pos}
nonrec def sErr:SF:=fun _ _=>none
theorem Zv0 {st:Uab}:PSf X st sErr:=by
 rintro pins s σ H E I ⟨ι,σd,Hd,fl,σd',Hd',_,_,e,_⟩
 cases e
nonrec def Zw2:D->Option Int
 | .int i=>some i
 | _=>none
nonrec def sAug (g:Int->Int->Int) (i:Nat) (f:EF):SF:=fun σ H=>((σ[i]?).join.bind Zw2).bind fun a=>(f σ H).bind fun p=>(Zw2 p.1).map fun b=>(.nx,σ.set i (some (.int (g a b))),p.2)
theorem Zkf {d:D} {i:Int} (h:Zw2 d=some i):d=.int i:=by
 cases d<;>simp[Zw2] at h
 rw[h]
theorem Yac {i:Nat} {x:Str} {f:EF} {op:Udt} {g:Int->Int->Int} {pos':Pos} (ho:PIp X op (ipI g)) (hN:X.N.Nodup) (hi:X.N[i]? = some x) (hx:Loc X.env.scope x) (he:PEf X e f)
  (hf:X.fn x=true\/X.env.scope.names.lookup x=some .local:=by first | exact .inl rfl | exact .inr rfl | assumption):PSf X (.AugAssign (.Name x pos') op e pos) (sAug g i f):=by
 refine PSi (Yet hN hi hx he ho hf) fun E σ H zz=>?_
 obtain⟨ι,σd,Hd,fl,σd',Hd',s,hr,e,q⟩:=zz
 obtain⟨a,e0,e⟩:=Zo e
 obtain⟨d,e1,e2⟩:=Zo e0
 have:=Zkf e2
 subst this
 obtain⟨⟨y,H1⟩,e3,e⟩:=Zo e
 obtain⟨b,e4,e⟩:=Zm e
 have:=Zkf e4
 dsimp only at this e
 subst this
 cases e
 have hv:σd[i]? = some (some (.int a)):=by
  cases hx:σd[i]? with
  | none=>rw[hx] at e1; cases e1
  | some o=>rw[hx] at e1; exact congrArg some e1
 obtain⟨v,h1,h2⟩:=s.var i _ hv
 simp at h2
 subst h2
 refine⟨_,h1,ι,σd,Hd,_,_,s,hr,e3,fun v H' ι' l h r=>?_⟩
 simp at r
 subst r
 refine⟨a,b,rfl,rfl,q _ H' ι' l h ((s.mono l).set (by simp) i)⟩
end
structure BlkOk2 (X:Cx) (scope:Ubj) (x y:Str) (cn:List Str) (ci:List Nat):Prop where
 kind:scope.kind=.function
 nocell:∀ y∈scope.names,y.2≠.cell
 names:∀ y∈scope.names,y.2=.local->scope.names.lookup y.1=some .local
 tgt:scope.names.lookup x=some .local
 tgt2:scope.names.lookup y=some .local
 free:∀ y∈scope.names,y.2=.free->(X.env.cells.lookup y.1).isSome=true
 nd:(x::y::cn).Nodup
 len:ci.length=cn.length
 cap:∀ (j:Nat) (y:Str),cn[j]? = some y->∃ i,ci[j]? = some i/\X.N[i]? = some y/\scope.names.lookup y=some .free/\(X.env.kindOf y=some .cell\/X.env.kindOf y=some .free)
section
variable {X:Cx} {pins:List (Ve×Obj)} {σ:L2.St} {H:Hp} {s:Vd} {scope:Ubj} {x y0:Str} {cn:List Str} {ci:List Nat} {fp:List Ve}
theorem Zxr {h₁:Uaa} {tk:Nat} {o₁:Obj} (I:Inv X pins σ H s) (B:BlkOk2 X scope x y0 cn ci) (hf:∀ b∈fp,Zlo X pins H b) (hlt:∀ b∈fp,b<s.heap.objs.size)
  (hns:h₁.Ns s.heap.objs.size (fun _=>none)) (hsb:Wad s.heap.objs.size (s.heap.push o₁) h₁) :
  Inv (blk X scope (x::y0::cn) (Zib X.env scope.names []) s.heap.objs.size s H fp (X.pn++pins)) [] (none::none::Zj4 ci σ) H { s with heap:=h₁,toks:=tk }:=by
 have old:∀ b o,s.heap.get? b=some o->h₁.get? b=some o:=fun b o e=>hsb.extBut b o (Xi (Xe e)) (Xa _ e)
 have sub:=Zgz X.env scope.names [] (by intro x c h; simp at h)
 have has:∀ y,(y,Ue)∈scope.names->∃ c,(Zib X.env scope.names []).lookup y=some c:=fun y hy =>
  Wan.mp (Zls X.env scope.names [] y (.inr ⟨hy,B.free _ hy rfl⟩))
 refine⟨⟨I.ok.mod,B.kind,I.ok.glob,I.ok.blt,Xd _,fun y z c h1 h2=>I.ok.inj y z c (sub y c h1) (sub z c h2),fun y hy=>has y (Zfh B.nocell hy),fun y c hy=>absurd hy (by show ¬ (false=true); simp),I.ok.hd,I.ok.frames,.inl rfl,
   fun b hb=>⟨Xi (hlt b hb),fun y c e=>(hf b hb).2.2.2.2.1 y c (sub y c e)⟩,I.bs,Wag I.ok.bsz I.sz,fun b o e hb=>?_,fun b hb z=>?_,I.stack,I.stkFree⟩,
  rfl,I.bare,Un.kept old,⟨_,hns,fun i y v h1 h2 h3=>?_⟩,fun y c e=>?_,I.hok.fresh (Xd _),fun y c e=>(I.freeC y c (sub y c e)).imp id fun z=>⟨rfl,z.2⟩,fun p hp=>?_,I.hok.kept old,?_⟩
 ·rcases(hf b hb).2.2.2.1 with z | z
  ·exact I.ok.noex b o e z
  ·exact absurd (Xk (Xe e) (Wag I.ok.bsz z)) (Waz _)
 ·exact(Xj.mp (I.stkSub b z)).elim (hf b hb).2.1 (hf b hb).2.2.1
 ·match i,h1,h2 with
  | 0,h1,h2=>simp at h2
  | 1,h1,h2=>simp at h2
  | j+2,h1,h2 =>
   have h1':cn[j]? = some y:=by simpa [blk] using h1
   have h2':(Zj4 ci σ)[j]? = some (some v):=by simpa using h2
   obtain⟨i,e1,e2,e3,e4⟩:=B.cap j y h1'
   have e5:σ[i]? = some (some v):=by
    unfold Zj4 at h2'
    rw[Xr,e1] at h2'
    simp at h2'
    cases e:σ[i]? with
    | none=>rw[e] at h2'; cases h2'
    | some o=>rw[e] at h2'; simp at h2'; rw[h2']
   obtain⟨m,hn,hl⟩:=I.loc
   have hv:Vis X.env.scope y:=by
    rcases e4 with e4 | e4
    ·exact .inr (.inl e4)
    ·exact .inr (.inr e4)
   obtain⟨u,r,l⟩:=hl i y v e2 e5 hv
   refine⟨u,r,.inr ⟨Zgl e3,?_⟩⟩
   obtain⟨c,ec⟩:=has y (Uh e3)
   refine⟨c,ec,?_⟩
   rcases l with ⟨l,_⟩ | ⟨_,c',ec',hc⟩
   ·rcases e4 with e4 | e4<;>rw[e4] at l<;>cases l
   ·rw[sub y c ec] at ec'
    cases ec'
    obtain⟨ob,q1,q2⟩:=hc
    exact⟨ob,old _ _ q1,q2⟩
 ·obtain⟨v,ob,q1,q2⟩:=I.cell y c (sub y c e)
  exact⟨v,ob,old _ _ q1,q2⟩
 ·have hp':p∈X.pn++pins:=by simpa [blk] using hp
  obtain⟨q1,q2,q3,q4,q5⟩:=I.pin p hp'
  refine⟨old _ _ q1,q2,Xi (Xe q1),fun z=>?_,q5⟩
  exact(Xj.mp (I.stkSub p.1 z)).elim q3 q4
 ·simp[blk,Zj4,B.len]
def LcW2 (K:Xb) (J:It) (ci:List Nat) (tt:TT) (te:TE) (σ:L2.St) (Q:VK) (H1:Hp):Prop:=∀ p,H1 p=none->∃ W:Nat->Nat->List V->Hp->Prop,(∃ m,W 0 m [] (upd H1 p (.lst [])))/\∀ i m ys H,W i m ys H ->
 H p=some (.lst ys)/\((J.stop i H/\Q (.ref p) H)\/(J.go i H/\∀ v H',J.yld i H v H'->∃ a v1 v2,v=.ref a/\SqT K H' a [v1,v2]/\tt (some v1::some v2::Zj4 ci σ) H' fun b H2 =>
  if b=true then te (some v1::some v2::Zj4 ci σ) H2 fun y H3=>H3 p=some (.lst ys)/\ys.length<sizeLine/\∃ m',m'<m/\W (i+1) m' (ys++[y]) (upd H3 p (.lst (ys++[y])))
  else ∃ m',m'<m/\W (i+1) m' ys H2))
theorem Zvn {elt iter:Vw} {px py pt pos:Pos} {kt:Nat} {ifs:List Vw} {tt:TT} {te:TE} {Q:VK} {E:Vb->Vd->Prop} {RR:Vb->Ve->Result->Vd->Prop} {it:Ve} {tn:Nat->Uaa->Prop} {J:It}
  (I:Inv X pins σ H s) (hc:X.calm=true) (B:BlkOk2 X scope x y0 cn ci) (T:Turn X.prog X.w X.K (.Tuple [.Name x px,.Name y0 py] kt pt) J fp it tn) (st:tn 0 s.heap) (hf:∀ b∈fp,Zlo X pins H b)
  (ht:∀ cl C s H fp pn,PTs (blk X scope (x::y0::cn) cl C s H fp pn) ifs tt) (he:∀ cl C s H fp pn,PE (blk X scope (x::y0::cn) cl C s H fp pn) elt te)
  (hw:LcW2 X.K J ci tt te σ Q H) (hRR:∀ p C H' s',Inv X pins σ H' s'->Gone X pins H' s' C->Q (.ref p) H'->RR (.ref p) C (.ok .next) s') :
  Vf (Vm X.prog X.w) X.A (Uef []) (fun acc s₃=>Vf (Vm X.prog X.w) X.A (newFunctionEnv scope X.env.globals (Zib X.env scope.names []) [] X.env.qual none .none (some X.env)) (fun cenv s₄ =>
   Ucl (Vm X.prog X.w) X.A (.compStart (.ListComp elt [⟨.Tuple [.Name x px,.Name y0 py] kt pt,iter,ifs,0⟩] scope pos) 0 (.ref it) acc { cenv with scope:=relabel scope X.env }) (RR acc cenv.locals) s₄) E s₃) E s:=by
 have hp0:H s.heap.objs.size=none:=I.hok.fresh (Xd _)
 obtain⟨W,⟨m0,w0⟩,turn⟩:=hw _ hp0
 refine Vs (Ucv B.nocell (by intro y hy; simp at hy) (fun h₁ hns₁ hsb₁=>?_) B.kind)
 dsimp only at hns₁ hsb₁ ⊢
 have I3:Inv X pins σ (upd H s.heap.objs.size (.lst [])) { s with heap:=s.heap.push { cls:=.type "list",dict:=none,data:=.seq ([]:List Vb).toArray } } :=
  I.laid (t':=s.toks) (fun b u e=>Xa _ e) (Xd _) ⟨Wbm _,[],0,.nil,Xf _ rfl⟩
 generalize hH3:s.heap.push { cls:=.type "list",dict:=none,data:=.seq ([]:List Vb).toArray }=hp3 at hns₁ hsb₁ I3 ⊢
 have flt:∀ b∈fp,b<s.heap.objs.size:=fun b hb=>by
  obtain⟨o,e,_⟩:=T.obj 0 _ st b hb
  exact Xe e
 have sz3:hp3.objs.size=s.heap.objs.size+1:=by rw[<- hH3,Way]
 have f3:∀ b∈fp,Zlo X pins (upd H s.heap.objs.size (.lst [])) b:=fun b hb=>⟨by rw[Zah (Xi (flt b hb))]; exact(hf b hb).1,(hf b hb).2⟩
 have old3:∀ b o,s.heap.get? b=some o->hp3.get? b=some o:=fun b o e=>by rw[<- hH3]; exact Xa _ e
 have I4:=Zxr (s:={ s with heap:=hp3 }) (tk:=s.toks+([]:List (Str×Vb)).length) I3 B f3 (fun b hb=>by show b<hp3.objs.size; rw[sz3]; exact Wcb (flt b hb)) (by simpa using hns₁) hsb₁
 have old4:∀ b o,hp3.get? b=some o->h₁.get? b=some o:=fun b o e=>hsb₁.extBut b o (Xi (Xe e)) (Xa _ e)
 generalize hX':blk X scope (x::y0::cn) (Zib X.env scope.names []) hp3.objs.size { s with heap:=hp3 } (upd H s.heap.objs.size (.lst [])) fp (X.pn++pins)=X' at I4
 have ePr:X'.prog=X.prog:=by rw[<- hX']; rfl
 have eW:X'.w=X.w:=by rw[<- hX']; rfl
 have eK:X'.K=X.K:=by rw[<- hX']; rfl
 have eA:X'.A=X.A:=by rw[<- hX']; rfl
 have eEnv:X'.env=Ubr scope (Zib X.env scope.names []) hp3.objs.size X.env:=by rw[<- hX']; rfl
 have eEx:X'.ex=fp:=by rw[<- hX']; rfl
 have ht':PTs X' ifs tt:=by rw[<- hX']; exact ht _ _ _ _ _ _
 have he':PE X' elt te:=by rw[<- hX']; exact he _ _ _ _ _ _
 have eXe:X'.xe=fun _ _=>False:=by rw[<- hX']; rfl
 have hg':PG X' (.Tuple [.Name x px,.Name y0 py] kt pt) (gTup X.K 2 (Zvh (Zlb 0) (Zvh (Zlb 1) gNil))):=by
  rw[<- hX']
  exact Zyv (X:=blk X scope (x::y0::cn) _ _ _ _ _ _) hc (Zlu (Zlt (X:=blk X scope (x::y0::cn) _ _ _ _ _ _) B.nd rfl (.inl (Uad B.tgt)) (.inr (Uad B.tgt))) (Zlu (Zlt (X:=blk X scope (x::y0::cn) _ _ _ _ _ _) B.nd rfl (.inl (Uad B.tgt2)) (.inr (Uad B.tgt2))) Zvs))
 -- the iterator's objects, seen from the block
 have stat:∀ {H':Hp},(∀ b∈fp,H' b=none)->∀ b∈fp,Zlo X' [] H' b:=fun {H'} hn b hb=>by
  rw[<- hX']
  refine⟨hn b hb,(by show b≠hp3.objs.size; rw[sz3]; exact Xi (Wcb (flt b hb))),fun z=>(Xj.mp (I3.stkSub b z)).elim (hf b hb).2.1 (hf b hb).2.2.1,.inl hb,fun y c e=>?_,fun p hp=>?_⟩
  ·exact(hf b hb).2.2.2.2.1 y c (Zgz X.env scope.names [] (by intro x c h; simp at h) y c e)
  ·exact(hf b hb).2.2.2.2.2 p (by simpa [blk] using hp)
 have back:∀ {σ':L2.St} {H':Hp} {s':Vd},Inv X' [] σ' H' s'->Inv X pins σ H' s'/\Gone X pins H' s' hp3.objs.size:=fun {σ' H' s'} I5=>by
  have u:Un (frs X.stack) fp (upd H s.heap.objs.size (.lst [])) H' hp3 s'.heap:=by
   have:=I5.base
   rw[<- hX'] at this
   exact this
  have hok:HOk X.prog X.w H' s'.heap:=by have:=I5.hok; rw[ePr,eW] at this; exact this
  have ho:s'.os=s.os:=by have:=I5.os; rw[<- hX'] at this; exact this
  refine⟨I3.call' ho u hok I5.bare fun b hb=>⟨(hf b hb).2.2.2.1,(hf b hb).2.1,(hf b hb).2.2.2.2.1,(hf b hb).2.2.2.2.2⟩,?_,?_,?_,?_,fun y c e z=>?_,fun p hp z=>?_⟩
  ·obtain⟨m,hn,_⟩:=I5.loc
   rw[eEnv] at hn
   exact⟨m,hn⟩
  ·have:=I5.free
   rw[eEnv] at this
   exact this
  ·exact Wbt (I3.lt)
  ·exact I3.sz
  ·obtain⟨v,q⟩:=I3.cell y c e
   exact absurd (Xk q.lt (by rw[z]; exact Xd _)) (Waz _)
  ·have:=Xe (I3.pin p hp).1
   rw[z] at this
   exact Waz _ this
 have loop:Ucl (Vm X.prog X.w) X.A (.compLoop (.ListComp elt [⟨.Tuple [.Name x px,.Name y0 py] kt pt,iter,ifs,0⟩] scope pos) 0 (.ref it) (.ref s.heap.objs.size) (Ubr scope (Zib X.env scope.names []) hp3.objs.size X.env))
   (RR (.ref s.heap.objs.size) hp3.objs.size) { s with heap:=h₁,toks:=s.toks+([]:List (Str×Vb)).length }:=by
  refine codeAny_loop rfl (fun n s'=>∃ i o o2 ys H',Inv X' [] (o::o2::Zj4 ci σ) H' s'/\tn i s'.heap/\(∀ b∈fp,H' b=none)/\W i n ys H') (fun n s' hI=>?_) m0
   ⟨0,none,none,[],_,I4,T.keep _ _ _ st (fun b hb o e=>old4 b o (old3 b o e)),fun b hb=>(f3 b hb).1,w0⟩
  obtain⟨i,o,o2,ys,H',I5,st5,fr5,w5⟩:=hI
  show Vf _ X.A ((compTurn (.ListComp elt [⟨.Tuple [.Name x px,.Name y0 py] kt pt,iter,ifs,0⟩] scope pos) 0 (.ref it) (.ref s.heap.objs.size) (Ubr scope (Zib X.env scope.names []) hp3.objs.size X.env)).onRaise (fun x=>do noteFrame x (Ubr scope (Zib X.env scope.names []) hp3.objs.size X.env); theTreesLotGoes x)) _ _ s'
  refine wpAny_noted ?_
  rw[compTurn_list,<- eEnv,<- ePr,<- eW,<- eA]
  refine Uan (E:=fun _ _=>False) ?_ (fun _ _ q=>q) (fun _ _ z=>z.elim)
  obtain⟨hpl,wt⟩:=turn i n ys H' w5
  refine Va (Ubw (Va ?_))
  rcases wt with ⟨stop,q⟩ | ⟨go,step⟩
  ·have z:=T.done X' ePr eW eK (by rw[<- hX']; exact hc) i [] s' _ H' (fun _ _=>False) I5 (stat fr5) st5 stop
   rw[<- ePr,<- eW] at z
   refine thn z fun r s6 zz=>?_
   obtain⟨hr,I6⟩:=zz
   subst hr
   obtain⟨J1,g1⟩:=back I6
   exact Vc (hRR _ _ H' s6 J1 g1 q)
  ·have z:=T.item X' ePr eW eK (by rw[<- hX']; exact hc) i [] s' _ H' (fun _ _=>False) I5 (stat fr5) st5 go
   rw[<- ePr,<- eW] at z
   refine thn z fun r s6 zz=>?_
   obtain⟨u,hr,h6⟩:=zz
   subst hr
   refine Va (thn h6 fun _ s7 zz=>?_)
   obtain⟨v,H7,I7,r7,y7,st7,fr7⟩:=zz
   have I7':=I7.pinned (stat fr7) (T.obj _ _ st7)
   rw[<- eXe]
   obtain⟨a7,v1,v2,ev,sq,step7⟩:=step v _ y7
   refine Va (thn (hg' _ s7 _ H7 v u _ I7' r7 (show gTup X.K 2 (Zvh (Zlb 0) (Zvh (Zlb 1) gNil)) v (o::o2::Zj4 ci σ) H7 (fun σ8 H8=>σ8=some v1::some v2::Zj4 ci σ/\H8=H7) from⟨a7,[v1,v2],ev,sq,rfl,⟨v1,[v2],rfl,v2,[],rfl,rfl,rfl,rfl⟩⟩)) fun _ s8 zz=>?_)
   obtain⟨σ8,H8,I8,e8,e8'⟩:=zz
   subst e8 e8'
   refine Va (thn (ht' _ s8 _ _ _ I8 step7) fun b s9 zz=>?_)
   obtain⟨H9,I9,q9⟩:=zz
   have tnK:∀ {σ':L2.St} {H':Hp} {s':Vd},Inv X' (([]:List (Ve×Obj))++Zkh fp s7.heap) σ' H' s'->tn (i+1) s'.heap/\∀ b∈fp,H' b=none:=fun {σ' H' s'} I' =>
    ⟨T.keep _ _ _ st7 fun b hb o e=>(I'.pin (b,o) (Xw _ (Xw _ (Zdo hb e)))).1,fun b hb=>by
     obtain⟨ob,e,d⟩:=T.obj _ _ st7 b hb
     exact(I'.pin (b,ob) (Xw _ (Xw _ (Zdo hb e)))).2.1⟩
   cases b with
   | false =>
    obtain⟨m',hm,w9⟩:=q9
    obtain⟨t9,f9⟩:=tnK I9
    exact Vc ⟨rfl,m',hm,i+1,_,_,ys,H9,I9.unpinned,t9,f9,w9⟩
   | true =>
    refine Va (Va (thn (he' _ s9 _ _ _ I9 q9) fun yv s10 zz=>?_))
    obtain⟨y,H10,I10,r10,hp10,hz10,m',hm,w10⟩:=zz
    refine Va (thn (Zjb (X:=X') _ s10 _ H10 (.ref s.heap.objs.size) [y] (.ref s.heap.objs.size) [yv] (fun _ H11=>H11=upd H10 s.heap.objs.size (.lst (ys++[y]))) I10 rfl (.cons r10 .nil) ⟨_,ys,y,rfl,rfl,hp10,hz10,rfl⟩) fun _ s11 zz=>?_)
    obtain⟨_,H11,I11,_,e11⟩:=zz
    subst e11
    obtain⟨t11,f11⟩:=tnK I11
    exact Vc (Vc ⟨rfl,m',hm,i+1,_,_,ys++[y],_,I11.unpinned,t11,f11,w10⟩)
 exact Ucf loop (T.self _ 0 _ _ _ (T.keep _ _ _ st (fun b hb o e=>old4 b o (old3 b o e))) loop)
nonrec def tLC2 (K:Xb) (wi:TI) (ci:List Nat) (tt:TT) (te:TE):TE:=fun σ H Q=>wi σ H fun J H1=>LcW2 K J ci tt te σ Q H1
theorem Yc2 {elt iter:Vw} {px py pt pos:Pos} {kt:Nat} {ifs:List Vw} {wi:TI} {tt:TT} {te:TE} (hc:X.calm=true) (B:BlkOk2 X scope x y0 cn ci) (hi:PI X (.Tuple [.Name x px,.Name y0 py] kt pt) iter wi)
  (ht:∀ cl C s H fp pn,PTs (blk X scope (x::y0::cn) cl C s H fp pn) ifs tt) (he:∀ cl C s H fp pn,PE (blk X scope (x::y0::cn) cl C s H fp pn) elt te)
  (hs:∀ x,Vx iter X.env x=pure x:=by rintro _; rfl):PE X (.ListComp elt [⟨.Tuple [.Name x px,.Name y0 py] kt pt,iter,ifs,0⟩] scope pos) (tLC2 X.K wi ci tt te):=by
 intro pins s σ H Q I h
 rw[eval_ListComp]
 refine Uau (use:=none) rfl hs (Zhi X.env scope B.free) B.kind B.names ?_
 refine thn (hi pins s σ H _ I h) fun v s1 h1=>thn h1 fun itv s2 h2=>?_
 obtain⟨it,fp,tn,J,H2,e,I2,T,st2,f2,w2⟩:=h2
 subst e
 refine Zvn (RR:=fun acc C=>compPost (Vm X.prog X.w) X.A X.xe none (EP X pins σ Q) acc C) I2 hc B T st2 f2 ht he w2 fun p C H' s' I' g q=>?_
 obtain⟨m,hn⟩:=g.ns
 exact⟨m,hn,fun h' hs'=>⟨.ref p,H',g.go I' hs',rfl,q⟩⟩
end
nonrec def Yed (sc scope:Ubj) (N:List Str) (x y:Str) (cn:List Str) (ci:List Nat):Bool :=
 (scope.kind==.function)&&scope.names.all (fun y=>y.2 != .cell)&&scope.names.all (fun y=>y.2 != .local||scope.names.lookup y.1==some .local)&&(scope.names.lookup x==some .local)&&(scope.names.lookup y==some .local) &&
 scope.names.all (fun y=>y.2 != .free||sc.names.lookup y.1==some .cell)&&decide (x::y::cn).Nodup&&(ci.length==cn.length) &&
 (cn.zip ci).all (fun p=>N[p.2]? == some p.1&&scope.names.lookup p.1==some .free&&sc.names.lookup p.1==some .cell)
theorem Ya9 {P:Vi} {w:Vu} {K:Xb} {mg:Str->Option Vb} {base:Uaa} {N:List Str} {qual:Str} {sc scope:Ubj} {f:Ve} {cdv:Vb} {A:Vt} {outer:List Env} {s:Vd} {H:Hp} {E:XK} {x y0:Str} {cn:List Str} {ci:List Nat}
  (h:Yed sc scope N x y0 cn ci=true):BlkOk2 (Zmk CX0 P w K mg base N qual sc f cdv A outer s H E).nox scope x y0 cn ci:=by
 unfold Yed at h
 simp only[Wah,Xs,Wem,bne_iff_ne,ne_eq,beq_iff_eq,decide_eq_true_eq] at h
 obtain⟨⟨⟨⟨⟨⟨⟨⟨h1,h2⟩,h3⟩,h4⟩,h4b⟩,h5⟩,h6⟩,h7⟩,h8⟩:=h
 refine⟨h1,fun y hy=>h2 y hy,fun y hy hl=>(h3 y hy).resolve_left fun z=>z hl,h4,h4b,fun y hy hf=>?_,h6,h7,fun j y hj=>?_⟩
 ·have:=(h5 y hy).resolve_left fun z=>z hf
  obtain⟨c,hc⟩:=Zij (n:=s.heap.objs.size+1) this
  exact Wan.mpr ⟨c,hc⟩
 ·have hl:j<ci.length:=by rw[h7]; exact(Xc.mp hj).1
  have hm:(y,ci[j])∈cn.zip ci:=by
   refine Wbw.mpr ⟨j,?_⟩
   rw[Wdx]
   exact⟨hj,by simp[hl]⟩
  obtain⟨⟨k1,k2⟩,k3⟩:=h8 _ hm
  exact⟨ci[j],by simp[hl],k1,k2,.inl k3⟩
open Builtin.SmallTypes (nextOf)
section
variable {prog:Vi} {w:Vu} {A:Vt} {E:Vb->Vd->Prop} {s:Vd}
theorem Zs5 {j t:Ve} {i:Nat} {its:Array Vb} {x:Vb} {Q:Vb->Vd->Prop} (hj:s.heap.IsListIter j t i) (ht:s.heap.IsList t its) (hx:its[i]? = some x)
  (hQ:∀ h',h'.IsListIter j t (i+1)->Wad j s.heap h'->Q x { s with heap:=h' }):Vf (Vm prog w) A (nextOf (.ref j)) Q E s :=
 Zl4 (b:=true) hj ht hx hQ
theorem Zx9 {j t:Ve} {i:Nat} {its:Array Vb} {Q:Vb->Vd->Prop} (hh:A.handled=none) (hj:s.heap.IsListIter j t i) (ht:s.heap.IsList t its) (hx:its[i]? = none)
  (hE:∀ h' e,Wdp j s.heap h'->(∃ o,h'.get? e=some o/\o.cls=.type "StopIteration")->E (.ref e) { s with heap:=h' }):Vf (Vm prog w) A (nextOf (.ref j)) Q E s :=
 Ztx (b:=true) hh hj ht hx hE
theorem Zrp {e j t:Ve} {i:Nat} {c:Int} {its:Array Vb} {x old:Vb} {Q:Option Vb->Vd->Prop} (he:Uay s.heap e j c old) (hj:s.heap.IsListIter j t i) (ht:s.heap.IsList t its) (hx:its[i]? = some x) (hne:e≠j)
  (hQ:∀ h' tk,Uco h' e j (c+1) x s.heap.objs.size->h'.IsListIter j t (i+1)->h'.get? s.heap.objs.size=some { cls:=.type "tuple",data:=.seq #[.int c tk,x] }->h'.objs.size=s.heap.objs.size+1 ->
   (∀ b o,b≠e->b≠j->s.heap.get? b=some o->h'.get? b=some o)->Q (some (.ref s.heap.objs.size)) { s with heap:=h',toks:=s.toks+1 }) :
  Vf (Vm prog w) A (Ubg (.ref e)) Q E s:=by
 have hT:s.TypeIs (.ref e) "enumerate" := ⟨_,he,rfl⟩
 unfold Ubg
 refine Va (Ual (Vh (name:=Ua "__next__") hT Ui (Vo Ui hT Tae ?_ (Tac _))))
 obtain⟨hp,g,d,tk,os⟩:=s
 show Vf _ _ (Udg (.ref e) 2 >>= _) _ _ _
 refine Va (Vn he rfl (x:=.ref j) rfl (Va (Zs5 hj ht hx fun h1 j1 s1=>?_)))
 replace s1:Wad j hp h1:=s1
 have e1:Uay h1 e j c old:=(s1.2 e hne).trans he
 show Vf _ _ (Udg (.ref e) 3 >>= _) _ _ ⟨h1,g,d,tk,os⟩
 refine Va (Vn e1 rfl (x:=Uag c) rfl ?_)
 show Vf _ _ (Udg (.ref e) 4 >>= _) _ _ ⟨h1,g,d,tk,os⟩
 refine Va (Vn e1 rfl (x:=.none) rfl ?_)
 show Vf _ _ (mkInt c >>= _) _ _ ⟨h1,g,d,tk,os⟩
 refine Va (Uea ?_)
 show Vf _ _ (Udn (.ref e) 3 (Uag (c+1)) >>= _) _ _ ⟨h1,g,d,tk+1,os⟩
 refine Va (Vk e1 (by simp) fun h2 e2 s2=>?_)
 replace s2:Wad e h1 h2:=s2
 replace e2:Uay h2 e j (c+1) old:=e2
 show Vf _ _ (Udn (.ref e) 4 .none >>= _) _ _ ⟨h2,g,d,tk+1,os⟩
 refine Va (Vk e2 (by simp) fun h3 e3 s3=>?_)
 replace s3:Wad e h2 h3:=s3
 replace e3:Uay h3 e j (c+1) old:=e3
 show Vf _ _ (newTuple [.int c tk,x] >>= _) _ _ ⟨h3,g,d,tk+1,os⟩
 refine Va (Uda ?_)
 have e4:Uay (h3.push { cls:=.type "tuple",data:=.seq #[.int c tk,x] }) e j (c+1) old:=Xa _ e3
 generalize q4:h3.push { cls:=.type "tuple",data:=.seq #[.int c tk,x] }=h4 at e4
 have zz:h3.objs.size=hp.objs.size:=by rw[s3.1,s2.1,s1.1]
 have lt:e<hp.objs.size:=Xe he
 have t4:h4.get? hp.objs.size=some { cls:=.type "tuple",data:=.seq #[.int c tk,x] }:=by rw[<- q4,<- zz]; exact Xf _ rfl
 have z4:h4.objs.size=hp.objs.size+1:=by rw[<- q4,Way,zz]
 have k4:∀ b o,b≠e->b≠j->hp.get? b=some o->h4.get? b=some o:=fun b o n1 n2 q=>by
  rw[<- q4]; exact Xa _ (s3.extBut b o n1 (s2.extBut b o n1 (s1.extBut b o n2 q)))
 have j4:h4.IsListIter j t (i+1):=by
  obtain⟨o,ho,r⟩:=id j1
  exact⟨o,by rw[<- q4]; exact Xa _ (s3.extBut j o (Uo hne) (s2.extBut j o (Uo hne) ho)),r⟩
 show Vf _ _ (Uc (.ref e) >>= _) _ _ ⟨h4,g,d,tk+1,os⟩
 rw[zz]
 clear q4 e3 s3 e2 s2 e1 s1 j1 zz h3 h2 h1
 refine Va ?_
 unfold Uc
 refine Va (Vn e4 rfl (x:=.none) rfl (Vc ?_))
 simp only[if_true]
 refine Va (Ubd (Va (Vn e4 rfl (x:=old) rfl (Va (Vk e4 (by simp) fun h5 e5 s5=>?_)))))
 replace s5:Wad e h4 h5:=s5
 replace e5:Uay h5 e j (c+1) x:=e5
 show Vf _ _ (Ud (.ref e) (.ref hp.objs.size) >>= _) _ _ ⟨h5,g,d,tk+1,os⟩
 refine Va ?_
 unfold Ud
 refine Va (Vk e5 (by simp) fun h6 e6 s6=>?_)
 replace s6:Wad e h5 h6:=s6
 replace e6:Uco h6 e j (c+1) x hp.objs.size:=e6
 refine Vk e6 (by simp) fun h7 e7 s7=>?_
 replace s7:Wad e h6 h7:=s7
 replace e7:Uco h7 e j (c+1) x hp.objs.size:=e7
 have up:∀ b o,b≠e->h4.get? b=some o->h7.get? b=some o:=fun b o n q=>s7.extBut b o n (s6.extBut b o n (s5.extBut b o n q))
 refine Va (Ubm (Vc ⟨_,rfl,Vc (hQ h7 tk e7 ?_ (up _ _ (Wbt lt) t4) (by rw[s7.1,s6.1,s5.1,z4]) fun b o n1 n2 q=>up b o n1 (k4 b o n1 n2 q))⟩))
 obtain⟨o,ho,r⟩:=id j4
 exact⟨o,up j o (Uo hne) ho,r⟩
theorem Zri {e j t:Ve} {i:Nat} {c:Int} {its:Array Vb} {old:Vb} {Q:Option Vb->Vd->Prop} (hh:A.handled=none) (he:Uay s.heap e j c old) (hj:s.heap.IsListIter j t i) (ht:s.heap.IsList t its) (hx:its[i]? = none)
  (hQ:∀ h',Wdp j s.heap h'->Q none { s with heap:=h' }):Vf (Vm prog w) A (Ubg (.ref e)) Q E s:=by
 have hT:s.TypeIs (.ref e) "enumerate" := ⟨_,he,rfl⟩
 unfold Ubg
 refine Va (Ual (Vh (name:=Ua "__next__") hT Ui (Vo Ui hT Tae ?_ (Tac _))))
 show Vf _ _ (Udg (.ref e) 2 >>= _) _ _ _
 refine Va (Vn he rfl (x:=.ref j) rfl (Va (Zx9 hh hj ht hx fun h' z he' zz=>?_)))
 obtain⟨o,ho,hc⟩:=zz
 exact Va (Ubh (T := "StopIteration") (b:=true) ⟨o,ho,hc⟩ Ubv (Vc (hQ _ he')))
open AutoSeq1 (wpAny_loadPart') in
theorem Zt7 (t:Ve) (its:Array Vb) (n:Nat) (dct:Option Ve) (sl:Array (Option Vb)) :
  Meets (Builtin.«enumerate.__new__» ⟨[.type "enumerate",.ref t],[]⟩) (fun _ R s=>s.heap.get? t=some { cls:=.type "list",dict:=dct,data:=.seq its n,slots:=sl } /\
   R (.ok (.ret (.ref (s.heap.push { cls:=.type "list_iterator",data:=.fields #[.ref t,.int 0 0] }).objs.size)))
    { s with heap:=(s.heap.push { cls:=.type "list_iterator",data:=.fields #[.ref t,.int 0 0] }).push { cls:=.type "enumerate",data:=.fields #[.none,.bool false,.ref s.heap.objs.size,Uag 0,.none,.none] } }) :=
 .of_wp fun prog w A R s h=>by
  obtain⟨hp,g,d,tk,os⟩:=s; obtain⟨hl,h⟩:=h
  have hsub:=sub_enumerate
  have hL:Heap.IsList (Tcc ⟨hp,g,d,tk,os⟩) t its:=⟨_,hl,rfl,n,rfl⟩
  wp_walk using Vr hl
  refine wpAny_stack_any fun st=>Vc ?_
  split
  ·rename_i k _ _ _ _ _
   cases (k==Tbx "enumerate")<;>(wp_walk using Vr hl,Uak hL; exact⟨_,rfl,h⟩)
  ·wp_walk using Vr hl,Uak hL
   exact⟨_,rfl,h⟩
theorem Zrj {t:Ve} {its:Array Vb} {Q:Vb->Vd->Prop} (hL:s.heap.IsList t its)
  (h:∀ h',Uay h' (s.heap.objs.size+1) s.heap.objs.size 0 .none->h'.IsListIter s.heap.objs.size t 0->h'.objs.size=s.heap.objs.size+2 ->
   (∀ b o,s.heap.get? b=some o->h'.get? b=some o)->Q (.ref (s.heap.objs.size+1)) { s with heap:=h' }) :
  Vf (Vm prog w) A (call (.type "enumerate") [.ref t]) Q E s:=by
 obtain⟨⟨k,dct,dt,sl⟩,hl,hc,n,hd⟩:=hL
 replace hc:k=.type "list" := hc
 replace hd:dt=.seq its n:=hd
 subst hc hd
 refine Uds Tce (by decide) (Tbp _) (Tbr _) (fun obj=>Tca obj _) Tbs (Zt7 t its n dct sl) ⟨hl,?_⟩
 have hz:(s.heap.push { cls:=.type "list_iterator",data:=.fields #[.ref t,.int 0 0] }).objs.size=s.heap.objs.size+1:=Way ..
 show _/\_
 rw[hz]
 have he:Uay ((s.heap.push { cls:=.type "list_iterator",data:=.fields #[.ref t,.int 0 0] }).push { cls:=.type "enumerate",data:=.fields #[.none,.bool false,.ref s.heap.objs.size,Uag 0,.none,.none] }) (s.heap.objs.size+1) s.heap.objs.size 0 .none:=by
  have q:=Xf (s.heap.push { cls:=.type "list_iterator",data:=.fields #[.ref t,.int 0 0] }) (o:={ cls:=.type "enumerate",data:=.fields #[.none,.bool false,.ref s.heap.objs.size,Uag 0,.none,.none] }) rfl
  rw[hz] at q; exact q
 exact⟨⟨_,he,rfl⟩,h _ he ⟨_,Xa _ (Xf _ rfl),rfl,rfl⟩ (by rw[Way,hz]) fun b o x=>Xa _ (Xa _ x)⟩
end
nonrec def IteL (c:Int) (a:Ve):It :=
 ⟨fun i H=>∃ xs x,H a=some (.lst xs)/\xs[i]? = some x,fun i H v H'=>∃ p x,H p=none/\v=.ref p/\H'=upd H p (.tup [.int (c+i),x])/\∀ xs,H a=some (.lst xs)->xs[i]? = some x,fun i H=>∃ xs,H a=some (.lst xs)/\xs.length<=i⟩
theorem Zrb {P:Vi} {w:Vu} {K:Xb} {es:List Vw} {k:Nat} {pos:Pos} (a e j:Ve) (c:Int) (hne:e≠j):Turn P w K (.Tuple es k pos) (IteL c a) [e,j] e (fun i h=>∃ old,Uay h e j (c+i) old/\h.IsListIter j a i) where
 mem:=by simp
 obj:=fun i h st b hb=>by
  obtain⟨old,he,o,ho,hc,hd⟩:=st
  rcases Xj.mp hb with rfl | hb
  ·exact⟨_,he,fun v z=>by cases z⟩
  ·have:b=j:=by simpa using hb
   subst this
   exact⟨o,ho,fun v z=>by rw[hd] at z; cases z⟩
 keep:=fun i h h' st kk=>by
  obtain⟨old,he,o,ho,r⟩:=st
  exact⟨old,kk e (by simp) _ he,o,kk j (by simp) o ho,r⟩
 item:=by
  intro X hP hw hK hc i pins s σ H E I hf st hg
  subst hP hw hK
  obtain⟨xs,x,hq,hx⟩:=hg
  obtain⟨old,he,hj⟩:=st
  obtain⟨its,rv,p,hz⟩:=I.list (SqL.of hq)
  obtain⟨u,hu,ru⟩:=rv.get hx
  have fe:=hf e (by simp)
  have fj:=hf j (by simp)
  refine Zrp he hj p.isList (x:=u) (by simpa using hu) hne fun h' tk eo j' t' z' kk=>?_
  refine⟨_,rfl,Ubp (s:={ s with heap:=h',toks:=s.toks+1 }) eo fun h2 e2 s2=>?_⟩
  replace s2:Wad e h' h2:=s2
  have le:e<s.heap.objs.size:=Xe he
  have ne2:s.heap.objs.size≠e:=Wbt le
  -- the iterator's two records have turned, the pair is new
  have t2:h2.get? s.heap.objs.size=some { cls:=.type "tuple",data:=.seq #[.int (c+i) tk,u] }:=s2.extBut _ _ ne2 t'
  have hp0:H s.heap.objs.size=none:=I.hok.fresh (Xd _)
  have up:∀ b o,b∉[e,j]->s.heap.get? b=some o->h2.get? b=some o:=fun b o hb q =>
   s2.extBut b o (fun z=>hb (by simp[z])) (kk b o (fun z=>hb (by simp[z])) (fun z=>hb (by simp[z])) q)
  have I2:Inv X pins σ (upd H s.heap.objs.size (.tup [.int (c+i),x])) { s with heap:=h2,toks:=s.toks+1 }:=by
   refine I.step (g':=s.gens) (d':=s.drawn) (t':=s.toks+1) (ch:=[e,j]) (fun b hb=>?_) (fun b o _ _ hb q n=>up b o hb q) (fun b o _ _ hb q n=>⟨o.slots,up b o hb q⟩) (fun b o _ q n=>?_) (fun b o hb q=>⟨o,up b o hb q⟩) (fun b ys q=>?_) (fun b o y q=>?_) (fun b ps q=>⟨#[],?_⟩) (fun m hm=>?_) (fun b o q=>?_) I.bare
   ·have:=hf b hb; exact⟨this.2.2.2.1,this.2.1,this.2.2.2.2.1,this.2.2.2.2.2⟩
   ·rw[Zah (Xi (Xe q))]; exact n
   ·rw[Zah (Zai q hp0)]; exact q
   ·rw[Zah (Zai q hp0)]; exact q
   ·rw[Zah (Zai q hp0),q]; simp
   ·obtain⟨o,es',ep,ho,r⟩:=hm
    exact⟨o,es',ep,s2.extBut _ o (Uo fe.2.1) (kk _ o (Uo fe.2.1) (Uo fj.2.1) ho),r⟩
   ·by_cases hb:b=s.heap.objs.size
    ·subst hb
     rw[Zas] at q
     cases q
     exact⟨(by show 2<=sizeLine; decide),[.int (c+i) tk,u],.cons ⟨tk,rfl⟩ (.cons ru .nil),_,t2,rfl,⟨_,rfl⟩,rfl⟩
    ·rw[Zah hb] at q
     refine(I.hok b o q).stay (fun d v hd z=>up d v (fun hm=>?_) z) (fun d z=>by rw[Zah (Zai z hp0)]; exact z) fun d ys z=>by rw[Zah (Zai z hp0)]; exact z
     have:H d≠none:=by
      rcases hd with rfl | hd
      ·rw[q]; simp
      ·rw[hd]; simp
     exact this (hf d hm).1
  refine⟨.ref s.heap.objs.size,_,I2,rfl,⟨_,x,hp0,rfl,rfl,fun ys hy=>by rw[hq] at hy; cases hy; exact hx⟩,?_,fun b hb=>?_⟩
  ·obtain⟨o,ho,r⟩:=id j'
   have ec:c+((i+1:Nat):Int)=c+(i:Int)+1:=by push_cast; omega
   exact⟨u,by rw[ec]; exact e2,o,s2.extBut j o (Uo hne) ho,r⟩
  ·have hb2:b≠s.heap.objs.size:=by
    rcases Xj.mp hb with rfl | hb
    ·exact Xi le
    ·have:b=j:=by simpa using hb
     subst this
     obtain⟨o,ho,_⟩:=id hj
     exact Xi (Xe ho)
   rw[Zah hb2]; exact(hf b hb).1
 done:=by
  intro X hP hw hK hc i pins s σ H E I hf st hg
  subst hP hw hK
  obtain⟨xs,hq,hx⟩:=hg
  obtain⟨old,he,hj⟩:=st
  obtain⟨its,rv,p,hz⟩:=I.list (SqL.of hq)
  obtain⟨f0,f1,f2,f3,f4,f5⟩:=hf j (by simp)
  have hl:=rv.length
  exact Zri (I.ok.hd hc) he hj p.isList (by simp; omega) fun h' eb=>⟨rfl,I.turned (t':=s.toks) (fun b o hb q=>eb b o hb q) f0 f1 f3 f4 f5⟩
 self:=fun _ _ _ _ _ st h=>by
  obtain⟨old,he,_⟩:=st
  exact Ube he h
nonrec def two2:D->Option (D×D)
 | .tup [a,b]=>some (a,b)
 | _=>none
theorem Zuf {x a b:D} (h:two2 x=some (a,b)):x=.tup [a,b]:=by
 unfold two2 at h
 split at h
 ·cases h; rfl
 ·cases h
open Classical in
nonrec def Zeq (own:Zgy) (c0:SD) (tt:TF) (te:EF):List D->HD->Option (List D×HD)
 | [],H=>if Zcb own H then some ([],H) else none
 | x::r,H=>(two2 x).bind fun ab=>if Zcb own H then (tt (some ab.1::some ab.2::c0) H).bind fun t=>if t.1=true then (te (some ab.1::some ab.2::c0) t.2).bind fun e=>(Zeq own c0 tt te r e.2).map fun q=>(e.1::q.1,q.2) else Zeq own c0 tt te r t.2 else none
nonrec def Yez (it:ItF) (ci:List Nat) (tt:TF) (te:EF):EF:=fun σ H=>(it σ H).bind fun p=>(Zeq p.1.2 (Zuz ci σ) tt te p.1.1 p.2).bind fun q=>mkL q.1 q.2
theorem Zsa {own:Zgy} {c0:SD} {tt:TF} {te:EF} {x:D} {r:List D} {H:HD} {z:List D×HD} (h:Zeq own c0 tt te (x::r) H=some z):∃ a b,x=.tup [a,b]/\Zcb own H/\((tt (some a::some b::c0) H).bind fun t=>if t.1=true then (te (some a::some b::c0) t.2).bind fun e=>(Zeq own c0 tt te r e.2).map fun q=>(e.1::q.1,q.2) else Zeq own c0 tt te r t.2)=some z:=by
 rw[Zeq] at h
 obtain⟨⟨a,b⟩,e,h⟩:=Zo h
 split at h
 ·rename_i ok
  exact⟨a,b,Zuf e,ok,h⟩
 ·cases h
section
variable {X:Cx} {scope:Ubj} {x y0:Str} {cn:List Str} {ci:List Nat}
theorem Ye1 {α β:Type} {F:α->β->Prop} {a b:α} {us:List β} (h:Vj F [a,b] us):∃ u v,us=[u,v]/\F a u/\F b v:=by
 cases h with
 | cons p P=>cases P with
  | cons q P=>cases P; exact⟨_,_,rfl,p,q⟩
theorem SRep.cap2 {K:Xb} {H:Hp} {ι:List Ve} {σ:L2.St} {σd:SD} {d e:D} {v u:V} (s:SRep K H ι σ σd) (r:Rep K H ι d v) (r2:Rep K H ι e u):SRep K H ι (some v::some u::Zj4 ci σ) (some d::some e::Zuz ci σd):=by
 have c:=SRep.cap (ci:=ci) s r2
 refine⟨by simpa using c.len,fun i z h=>?_⟩
 cases i with
 | zero=>simp at h; subst h; exact⟨v,rfl,r⟩
 | succ j =>
  rw[Wce] at h ⊢
  exact c.var j z h
theorem Ydk {K:Xb} {it:ItF} {tt:TF} {te:EF} {σ:L2.St} {H:Hp} {Q:VK} (h:rdE K (Yez it ci tt te) σ H Q):tLC2 K (rdI K it) ci (rdT K tt) (rdE K te) σ H Q:=by
 obtain⟨ι,σd,Hd,d,Hd',s,hr,e,q⟩:=h
 obtain⟨⟨⟨xs,own⟩,H1⟩,e1,e⟩:=Zo e
 obtain⟨⟨ds,H2⟩,e2,e⟩:=Zo e
 obtain⟨hz,e⟩:=Zlq e
 cases e
 dsimp only at e2 hz
 refine⟨ι,σd,Hd,xs,own,H1,s,hr,e1,fun J H0 ι0 l0 h0 itr p hp=>?_⟩
 have s0:=s.mono l0
 refine⟨fun i m ys H=>m=xs.length - i/\i<=xs.length/\H p=some (.lst ys)/\∃ ι Hd done rest,Le K H0 ι0 H ι/\p∉ι/\HRep K H ι Hd/\Vj (Rep K H ι) done ys/\Zeq own (Zuz ci σd) tt te (xs.drop i) Hd=some (rest,H2)/\ds=done++rest,
  ⟨xs.length,by simp,Wbm _,Zas,ι0,H1,[],ds,Le.fresh hp _,h0.fresh hp,h0.tup hp _,.nil,by simpa using e2,by simp⟩,?_⟩
 rintro i m ys H5 ⟨rfl,hi,hpl,ι5,Hd5,done,rest,l5,np5,h5,pd5,e5,eds⟩
 refine⟨hpl,?_⟩
 by_cases hlt:i<xs.length
 ·have ed:xs.drop i=xs[i]::xs.drop (i+1):=War hlt
  rw[ed] at e5
  obtain⟨a1,a2,ex,ok,e5⟩:=Zsa e5
  obtain⟨⟨b6,H6⟩,e6,e5⟩:=Zo e5
  refine .inr ⟨itr.go i H5 ι5 Hd5 l5 h5 ok hlt,fun v H' y=>?_⟩
  obtain⟨ι6,l6,h6,r6⟩:=itr.yld i H5 ι5 Hd5 xs[i] v H' l5 h5 ok (by simp[hlt]) y
  obtain⟨hp6,np6⟩:=l6.frame p _ hpl np5
  rw[ex] at r6
  obtain⟨a6,ws6,ev6,sq6,P6⟩:=Zbd.mp r6
  obtain⟨u1,u2,rfl,p1,p2⟩:=Ye1 P6
  have s6:=SRep.cap2 (ci:=ci) (s0.mono (l5.trans l6)) p1 p2
  refine⟨a6,u1,u2,ev6,sq6,ι6,_,Hd5,b6,H6,s6,h6,e6,fun H7 ι7 l7 h7=>?_⟩
  obtain⟨hp7,np7⟩:=l7.frame p _ hp6 np6
  have L7:=(l5.trans l6).trans l7
  cases b6 with
  | true =>
   rw[if_pos rfl]
   dsimp only at e5
   rw[if_pos rfl] at e5
   obtain⟨⟨d8,H8⟩,e8,e5⟩:=Zo e5
   obtain⟨⟨r9,H9⟩,e9,e5⟩:=Zm e5
   cases e5
   refine⟨ι7,_,H6,d8,H8,s6.mono l7,h7,e8,fun v8 H8' ι8 l8 h8 rr8=>?_⟩
   obtain⟨hp8,np8⟩:=l8.frame p _ hp7 np7
   have ly:ys.length<sizeLine:=by
    rw[<- Prd.len pd5]
    rw[eds] at hz
    simp at hz
    omega
   have w8:Lw K H8' ι8 (upd H8' p (.lst (ys++[v8]))) ι8:=Lw.side hp8 _
   refine⟨hp8,ly,xs.length - (i+1),by omega,rfl,hlt,Zas,ι8,H8,done++[d8],r9,(L7.trans l8).side hp hp8 _,np8,h8.keep w8 (fun a ha=>Zah fun z=>by subst z; exact np8 ha),?_,e9,by rw[eds]; simp⟩
   exact Prd.append (Prd.monoW w8 (Prd.mono ((l6.trans l7).trans l8) pd5)) (.cons (Rep.monoW w8 rr8) .nil)
  | false =>
   rw[if_neg (by simp)]
   dsimp only at e5
   rw[if_neg (by simp)] at e5
   exact⟨xs.length - (i+1),by omega,rfl,hlt,hp7,ι7,H6,done,rest,L7,np7,h7,Prd.mono (l6.trans l7) pd5,e5,eds⟩
 ·rw[Wdd (by omega),Zeq] at e5
  split at e5
  ·rename_i ok
   have e6:(([]:List D),Hd5)=(rest,H2):=Wac.inj e5
   obtain⟨rfl,rfl⟩:=Wbd.inj e6
   refine .inl ⟨itr.stop i H5 ι5 _ l5 h5 ok (by omega),?_⟩
   have w5:Lw K H5 ι5 H5 (ι5++[p]):=⟨fun _ _ z=>z,fun _ _ z=>z,⟨[p],rfl⟩,fun _ _ _ z=>z⟩
   have L:=l0.trans l5
   simp at eds
   subst eds
   refine q _ H5 (ι5++[p]) ⟨L.toLw.trans w5,fun a o ha na=>?_⟩ (h5.add np5 ⟨ys,hpl,Prd.monoW w5 pd5⟩) (Za1.mpr ⟨p,rfl,by rw[<- h5.len]; simp⟩)
   obtain⟨q1,q2⟩:=L.frame a o ha na
   refine⟨q1,?_⟩
   have:a≠p:=fun z=>by
    subst z
    have:=(l0.frame a o ha na).1
    rw[hp] at this; cases this
   simp[q2,this]
  ·cases e5
theorem Ybu {elt iter:Vw} {px py pt pos:Pos} {kt:Nat} {ifs:List Vw} {it:ItF} {tt:TF} {te:EF} (hc:X.calm=true) (B:BlkOk2 X scope x y0 cn ci) (hi:PIf X (.Tuple [.Name x px,.Name y0 py] kt pt) iter it)
  (ht:∀ cl C s H fp pn,Yco (blk X scope (x::y0::cn) cl C s H fp pn) ifs tt) (he:∀ cl C s H fp pn,PEf (blk X scope (x::y0::cn) cl C s H fp pn) elt te)
  (hs:∀ x,Vx iter X.env x=pure x:=by rintro _; rfl):PEf X (.ListComp elt [⟨.Tuple [.Name x px,.Name y0 py] kt pt,iter,ifs,0⟩] scope pos) (Yez it ci tt te) :=
 PEi (Yc2 (tt:=rdT X.K tt) (te:=rdE X.K te) hc B hi ht he hs) fun _ _ _ h=>Ydk h
nonrec def Zqy (f:AF):ItF:=fun σ H=>(f σ H).bind fun p=>match p.1 with
 | [.ref n]=>match p.2[n]? with
  | some (.lst xs)=>some ((Zck 0 xs,[(n,.lst xs)]),p.2)
  | _=>none
 | _=>none
theorem Zuv {K:Xb} {H0:Hp} {ι0:List Ve} {a:Ve} {n:Nat} {c:Int} {xs:List D} (ha:ι0[n]? = some a):ItRep K (IteL c a) (Zck c xs) [(n,.lst xs)] H0 ι0:=by
 have now:∀ {H2:Hp} {ι2:List Ve} {Hd2:HD},Le K H0 ι0 H2 ι2->HRep K H2 ι2 Hd2->Zcb [(n,DO.lst xs)] Hd2->∃ ws,H2 a=some (.lst ws)/\Vj (Rep K H2 ι2) xs ws:=fun {H2 ι2 Hd2} l2 h2 ok =>
  h2.obj n a _ (l2.get ha) (ok (n,.lst xs) (by simp))
 refine⟨fun i H2 ι2 Hd2 l2 h2 ok hi=>?_,fun i H2 ι2 Hd2 d v H3 l2 h2 ok hd y=>?_,fun i H2 ι2 Hd2 l2 h2 ok hi=>?_⟩
 ·obtain⟨ws,h3,P3⟩:=now l2 h2 ok
  exact⟨ws,ws[i]'(by rw[<- Prd.len P3,<- Zfg xs c]; exact hi),h3,by simp⟩
 ·obtain⟨ws,h3,P3⟩:=now l2 h2 ok
  obtain⟨p,x,hp,rfl,rfl,y⟩:=y
  obtain⟨x',hx',rfl⟩:=Zje hd
  obtain⟨u,hu,ru⟩:=Prd.get P3 hx'
  have:=y ws h3
  rw[hu] at this
  cases this
  exact⟨ι2,Le.fresh hp _,h2.tup hp _,Zbd.mpr ⟨p,_,rfl,SqT.of Zas,.cons (by simp) (.cons (ru.mono (Le.fresh hp _)) .nil)⟩⟩
 ·obtain⟨ws,h3,P3⟩:=now l2 h2 ok
  exact⟨ws,h3,by rw[<- Prd.len P3,<- Zfg xs c]; exact hi⟩
theorem Zvz {es:List Vw} {k:Nat} {tp p pos:Pos} {a:Vw} {f:AF} (hg:Gl X "enumerate") (hm:X.mg "enumerate" = none) (ha:PAf X [a] f) (hs:Vg [a] X.env=[(false,eval a X.env)]:=by rfl):PIf X (.Tuple es k tp) (.Call (.Name "enumerate" p) [a] [] pos) (Zqy f):=by
 rintro pins s σ H R I ⟨ι,σd,Hd,xs,own,Hd',sr,hr,e,q⟩
 obtain⟨⟨ds,H1⟩,e1,e⟩:=Zo e
 dsimp only at e
 split at e
 ·rename_i n
  split at e
  ·rename_i ys eo
   cases e
   refine Call_ (Ze5 I hg hm boot_enumerate (Ug (thn (ha pos pins s σ H (fun vs H'=>∃ a ws,vs=[.ref a]/\H' a=some (.lst ws)/\∀ (J:It) (H2:Hp),H2=H'->J=IteL 0 a->R J H2) I ⟨ι,σd,Hd,_,_,sr,hr,e1,fun vs H' ι' l h P=>?_⟩) fun us s1 zz=>?_) hs rfl))
   ·obtain⟨v,rfl,r⟩:=Zmv P
    obtain⟨ad,rfl,had⟩:=Za1.mp r
    obtain⟨ws,hS,P2⟩:=h.obj n ad _ had eo
    refine⟨ad,ws,rfl,hS,fun J H2 e2 e3=>?_⟩
    subst e2 e3
    exact q _ _ ι' l h (Zuv had)
   ·obtain⟨vs,H2,I2,r2,q2⟩:=zz
    obtain⟨ad,ws,rfl,hS,q2⟩:=q2
    obtain⟨u,rfl,ru⟩:=Zi5 r2
    cases ru
    obtain⟨its,rv,p,hz⟩:=I2.list (SqL.of hS)
    refine Zrj p.isList fun h' he hj z' kk=>?_
    have I3:Inv X pins σ H2 { s1 with heap:=h' }:=I2.kept (t':=s1.toks) kk
    refine Ube (s:={ s1 with heap:=h' }) he ?_
    have ne:s1.heap.objs.size+1≠s1.heap.objs.size:=Wfs _
    refine⟨s1.heap.objs.size+1,[s1.heap.objs.size+1,s1.heap.objs.size],_,IteL 0 ad,H2,rfl,I3,Zrb ad _ _ 0 ne,⟨.none,by simpa using he,hj⟩,fun b hb=>?_,q2 _ _ rfl rfl⟩
    have:s1.heap.objs.size<=b:=by
     rcases Xj.mp hb with rfl | hb
     ·exact Wed _
     ·have:b=s1.heap.objs.size:=by simpa using hb
      rw[this]; exact Xd _
    exact I2.fpOk (b:=b) (H':=H2) this (I2.hok.fresh this)
  ·cases e
 ·cases e
end
nonrec def Zma (kvs:List (Int×D)) (k:Int) (v:D):List (Int×D):=if kvs.any (fun p=>p.1=k)=true then kvs.map (fun p=>if p.1=k then (p.1,v) else p) else kvs++[(k,v)]
nonrec def Zic (kvs:List (Int×D)) (k:Int):Option D:=(kvs.find? fun p=>p.1=k).map (·.2)
nonrec def Yb8 (x:D) (H:HD):Option (List (Int×D)):=match x with
 | .ref n=>match H[n]? with
  | some (.dci kvs)=>some kvs
  | _=>none
 | _=>none
nonrec def Ztd:F2:=fun x y H=>(Yb8 x H).bind fun kvs=>match y with
 | .int k=>(Zic kvs k).map fun v=>(v,H)
 | _=>none
nonrec def Yfh:F2:=fun x y H=>(Yb8 y H).bind fun kvs=>match x with
 | .int k=>some (.bl (Zic kvs k).isSome,H)
 | _=>none
theorem Znp {x:D} {Hd:HD} {kvs:List (Int×D)} (e:Yb8 x Hd=some kvs):∃ n,x=.ref n/\Hd[n]? = some (.dci kvs):=by
 cases x<;>simp only[Yb8] at e<;>try cases e
 rename_i n
 split at e
 ·rename_i h; cases e; exact⟨n,rfl,h⟩
 ·cases e
section
variable {K:Xb} {H:Hp} {ι:List Ve}
theorem Zwo {kvs:List (Int×D)} {xs:List (Int×Vb)} (h:Vj (Zw9 K H ι) kvs xs) (k:Int):kvs.any (fun p=>p.1=k)=xs.any (fun p=>p.1=k):=by
 induction h with
 | nil=>rfl
 | cons a b ih=>rw[Wdb,Wdb,ih,a.1]
theorem Zxk {kvs:List (Int×D)} {xs:List (Int×Vb)} {k:Int} {d:D} {v:V} {u:Vb} (h:Vj (Zw9 K H ι) kvs xs) (r:Zcg v u) (q:Rep K H ι d v):Vj (Zw9 K H ι) (kvs.map (fun p=>if p.1=k then (p.1,d) else p)) (xs.map (fun p=>if p.1=k then (p.1,u) else p)):=by
 induction h with
 | nil=>exact .nil
 | cons a b ih =>
  refine .cons ?_ ih
  dsimp only
  rw[a.1]
  split
  ·exact⟨rfl,v,r,q⟩
  ·exact a
theorem Zxd {kvs:List (Int×D)} {xs:List (Int×Vb)} {k:Int} {d:D} {v:V} {u:Vb} (h:Vj (Zw9 K H ι) kvs xs) (r:Zcg v u) (q:Rep K H ι d v):Vj (Zw9 K H ι) (Zma kvs k d) (Ued xs k u):=by
 unfold Zma Ued
 rw[Zwo h k]
 split
 ·exact Zxk h r q
 ·exact Prd.append h (.cons ⟨rfl,v,r,q⟩ .nil)
theorem Zob {kvs:List (Int×D)} {xs:List (Int×Vb)} (h:Vj (Zw9 K H ι) kvs xs) (k:Int):(Zic kvs k=none/\valueAt xs k=none)\/∃ d v u,Zic kvs k=some d/\valueAt xs k=some u/\Zcg v u/\Rep K H ι d v:=by
 unfold Zic valueAt
 induction h with
 | nil=>exact .inl ⟨rfl,rfl⟩
 | cons a b ih =>
  rename_i p x ps xs'
  by_cases e:p.1=k
  ·have e2:x.1=k:=by rw[<- a.1]; exact e
   obtain⟨_,v,r,q⟩:=a
   exact .inr ⟨p.2,v,x.2,by rw[Wdf (by simpa using e)]; rfl,by rw[Wdf (by simpa using e2)]; rfl,r,q⟩
  ·have e2:¬ x.1=k:=by rw[<- a.1]; exact e
   rw[Wch (by simpa using e),Wch (by simpa using e2)]
   exact ih
end
theorem Zx1 {p p2:Vi} {w w2:Vu} {es:List Uaj} {xs:List (Int×Vb)} (e:Pairs (Zwj p w) es xs):Pairs (Zwj p2 w2) es xs:=by
 induction e with
 | nil=>exact .nil
 | cons a b c ih=>exact .cons a b ih
theorem Zrk {h:Uaa} {a:Ve} {xs:List (Int×Vb)} {p:Vi} {w:Vu} (d:h.DictOf (Zwj p w) a xs):Zfa a xs h:=fun p2 w2=>by
 obtain⟨o,es,ep,e1,e2,e3,e4,e5,e6⟩:=d
 refine⟨o,es,ep,e1,e2,e3,e4,?_,e6⟩
 exact Zx1 e5
section
variable {X:Cx}
theorem Zwd {pins:List (Ve×Obj)} {σ:L2.St} {H:Hp} {s:Vd} {ι:List Ve} (I:Inv X pins σ H s) {a:Ve} {kvs:List (Int×D)} (h:Zrd X.K H ι a (.dci kvs)):(a==Uaf)=false/\∃ xs,Vj (Zw9 X.K H ι) kvs xs/\s.heap.DictOf (Zwj X.prog X.w) a xs:=by
 obtain⟨h1,h2,xs,h3,P⟩:=h
 exact⟨h1,xs,P,(I.hok a _ h3).1 X.prog X.w⟩
theorem Ydt:IxF X Ztd:=by
 rintro va sl pins s σ H x y v u Q I rx ry ⟨ι,dx,dy,Hd,d,Hd',hr,r1,r2,e,q⟩ hs
 obtain⟨kvs,e1,e⟩:=Zo e
 split at e
 ·rename_i k _
  obtain⟨vd,e3,e⟩:=Zm e
  obtain⟨rfl,rfl⟩:=Wbd.inj e
  obtain⟨n,rfl,hn⟩:=Znp e1
  obtain⟨a,rfl,ha⟩:=Za1.mp r1
  simp at r2
  subst r2
  obtain⟨tok,rfl⟩:=ry
  cases rx
  obtain⟨h1,xs,P,dd⟩:=Zwd I (hr.obj n a _ ha hn)
  rcases Zob P _ with ⟨z,_⟩ | ⟨d',v',u',z1,z2,z3,z4⟩
  ·rw[z] at e3; cases e3
  ·rw[z1] at e3; cases e3
   refine tail_any (ops:=[.ref a,.int k tok]) dd.typeIs PySem.F.slot_dict_getitem.lookup (wpAny_getItem_of (knd:=Zwj X.prog X.w) (k:=k) (Zi9 (k:=k) (t:=tok)) dd.mapOf z2 ?_) hs
   exact⟨v',H,I.tok _,z3,q _ H ι Le.refl hr z4⟩
 ·cases e
end
section
variable {X:Cx}
theorem iinf:OpF X (Vq .In) Yfh:=by
 rintro pins s σ H x y v u Q I rx ry ⟨ι,dx,dy,Hd,d,Hd',hr,r1,r2,e,q⟩
 obtain⟨kvs,e1,e⟩:=Zo e
 split at e
 ·rename_i k _
  obtain⟨rfl,rfl⟩:=Wbd.inj (Wac.inj e)
  obtain⟨n,rfl,hn⟩:=Znp e1
  obtain⟨a,rfl,ha⟩:=Za1.mp r2
  simp at r1
  subst r1
  obtain⟨tok,rfl⟩:=rx
  cases ry
  obtain⟨h1,xs,P,dd⟩:=Zwd I (hr.obj n a _ ha hn)
  refine wpAny_in_of (knd:=Zwj X.prog X.w) (k:=k) (Zi9 (k:=k) (t:=tok)) h1 dd.mapOf ?_
  have e3:(valueAt xs k).isSome=(Zic kvs k).isSome:=by
   rcases Zob P k with ⟨z1,z2⟩ | ⟨_,_,_,z1,z2,_⟩<;>rw[z1,z2]<;>rfl
  rw[e3]
  exact⟨.bl _,H,I.tok _,rfl,q _ H ι Le.refl hr (by simp)⟩
 ·cases e
end
section
variable {X:Cx}
nonrec def Zho (i j:Int):Nat:=(i - j).toNat
def Zku (i j c:Int):Prop := -(2 ^ 60)<=i/\i<2 ^ 60 /\ -(2 ^ 60)<=j/\j<2 ^ 60/\c = -1
instance (i j c:Int):Decidable (Zku i j c):=by unfold Zku; exact inferInstance
nonrec def iRB (f:AF):ItF:=fun σ H=>(f σ H).bind fun p=>match p.1 with
 | [.int i,.int j,.int c]=>if Zku i j c then some ((Zgi i c (Zho i j),[]),p.2) else none
 | _=>none
theorem Zqf {i j c:Int} (h:Zku i j c):Taa i j c=(Zho i j:Nat):=by
 obtain⟨_,_,_,_,rfl⟩:=h
 unfold Taa Zho
 rw[if_neg (by decide)]
 split
 ·rw[show -(-1:Int)=1 from rfl,Int.ediv_one]; omega
 ·omega
theorem Zu1 {i j c:Int} (h:Zku i j c):Tcd i j c=true:=by
 have e:=Zqf h
 obtain⟨h1,h2,h3,h4,rfl⟩:=h
 have hb:(Zho i j:Int)<=2 ^ 61:=by unfold Zho; omega
 unfold Tcd
 rw[e]
 have hp:¬ ((-1:Int) > 0):=by decide
 simp only[Builtin.Range.rangeFitsLong,Wah,Wem,decide_eq_true_eq,beq_iff_eq,hp,if_false]
 unfold Zho
 omega
theorem Zra {tg:Vw} {a b c:Vw} {f:AF} {p pos:Pos} (hg:Gl X "range") (hm:X.mg "range" = none) (ha:PAf X [a,b,c] f) (hs:Vg [a,b,c] X.env=(false,eval a X.env)::Vg [b,c] X.env:=by rfl) (hpl:(Uam pos (Vg [b,c] X.env)).any (·.1)=false:=by rfl) :
  PIf X tg (.Call (.Name "range" p) [a,b,c] [] pos) (iRB f):=by
 rintro pins s σ H R I ⟨ι,σd,Hd,xs,own,Hd',sr,hr,e,q⟩
 obtain⟨⟨ds,H1⟩,e1,e⟩:=Zo e
 dsimp only at e
 split at e
 ·rename_i i j k
  split at e
  ·rename_i hk
   cases e
   refine Call_ (Ze5 I hg hm boot_range (Ug (thn (ha pos pins s σ H (fun vs H'=>vs=[.int i,.int j,.int k]/\R (It3 i k (Zho i j)) H') I ⟨ι,σd,Hd,_,_,sr,hr,e1,fun ws H' ι' l h P=>?_⟩) fun us s1 zz=>?_) hs hpl))
   ·cases P with
    | cons r1 P =>
     obtain⟨v,v',rfl,r,r'⟩:=Ycr P
     simp at r1 r r'
     subst r1 r r'
     refine⟨rfl,q _ H' ι' l h ⟨fun i H2 ι2 Hd2 l2 h2 _ hi=>(show i<_ by simpa [Zgi] using hi),fun i' H2 ι2 Hd2 d x H3 l2 h2 _ hd y=>?_,fun i H2 ι2 Hd2 l2 h2 _ hi=>(show _<=i by simpa [Zgi] using hi)⟩⟩
     obtain⟨rfl,rfl⟩:=y
     unfold Zgi at hd
     rw[Xr] at hd
     obtain⟨k',h1',rfl⟩:=Zm hd
     rw[Xc] at h1'
     obtain⟨hl',h1'⟩:=h1'
     simp at h1'
     subst h1'
     exact⟨ι2,Le.refl,h2,by simp⟩
   ·obtain⟨vs,H2,I2,r2,q2⟩:=zz
    obtain⟨rfl,q2⟩:=q2
    cases r2 with
    | cons r1 r2 =>
     obtain⟨u1,u2,rfl,ru1,ru2⟩:=Zxp r2
     obtain⟨t1,rfl⟩:=r1
     obtain⟨t2,rfl⟩:=ru1
     obtain⟨t3,rfl⟩:=ru2
     have hc:=hk
     obtain⟨b1,b2,b3,b4,b5⟩:=hk
     refine call_range_3 (by omega) ?_ (.inl (Tbn (by omega)))
     refine wpAny_pyIter_range (Tcw ..) (Zu1 hc) ?_
     have I1:Inv X pins σ H2 { s1 with heap:=s1.heap.push { cls:=.type "range",data:=.fields #[.int i t1,.int j t2,.int k t3] } }:=I2.kept (t':=s1.toks) fun b o e=>Xa _ e
     refine⟨_,[_],_,It3 i k (Zho i j),H2,rfl,I1.kept (t':=s1.toks) fun b o e=>Xa _ e,Zo0 _ i k _,?_,fun b hb=>?_,q2⟩
     ·have z1:i+((0:Nat):Int)*k=i:=by simp
      have z2:((Zho i j:Nat):Int) - ((0:Nat):Int)=Taa i j k:=by rw[Zqf hc]; simp
      show Ude _ _ (i+((0:Nat):Int)*k) (((Zho i j:Nat):Int) - ((0:Nat):Int)) k
      rw[z1,z2]
      exact Xf _ rfl
     ·have e:b=(s1.heap.push { cls:=.type "range",data:=.fields #[.int i t1,.int j t2,.int k t3] }).objs.size:=by simpa using hb
      subst e
      exact I1.fpOk (Xd _) (I1.hok.fresh (Xd _))
  ·cases e
 ·cases e
end
theorem Zxc (kvs:List (Int×D)) (k:Int) (v:D):(Zma kvs k v).length<=kvs.length+1:=by unfold Zma; split<;>simp
nonrec def Zpq:Zzx:=fun o i v H=>match o,i with
 | .ref n,.int k=>match H[n]? with
  | some (.dci kvs)=>if kvs.length<sizeLine then some (H.set n (.dci (Zma kvs k v))) else none
  | _=>none
 | _,_=>none
section
variable {X:Cx}
theorem Zz9:Ybr X Zpq:=by
 rintro pins s σ H o i v ov iv u Q I ro ri rv ⟨ι,od,id,vd,Hd,Hd',hr,r1,r2,r3,e,q⟩
 have hx:∃ n k kvs,od=.ref n/\id=.int k/\Hd[n]? = some (.dci kvs)/\kvs.length<sizeLine/\Hd'=Hd.set n (.dci (Zma kvs k vd)):=by
  unfold Zpq at e
  split at e
  ·rename_i n k
   split at e
   ·rename_i kvs hn
    split at e
    ·rename_i hl; cases e; exact⟨n,k,kvs,rfl,rfl,hn,hl,rfl⟩
    ·cases e
   ·cases e
  ·cases e
 obtain⟨n,k,kvs,rfl,rfl,hn,hl,rfl⟩:=hx
 obtain⟨a,rfl,ha⟩:=Za1.mp r1
 have r2:i=.int k:=by simpa using r2
 subst r2
 cases ro
 obtain⟨tk,rfl⟩:=ri
 obtain⟨h1,h2,xs,h3,P⟩:=hr.obj n a _ ha hn
 have dd:Zfa a xs s.heap:=((show Zde X.prog X.w H s.heap a (.ext (Zfa a xs)) from I.hok a _ h3)).1
 have hz:xs.length<=sizeLine:=by rw[<- Prd.len P]; exact h2
 refine wpAny_setItem_pairs (knd:=Zwj X.prog X.w) (k:=k) (hsz:=hz) (Zi9 (k:=k) (t:=tk)) (dd X.prog X.w) fun h' dd' hs=>?_
 have L:Le X.K H ι (upd H a (.ext (Zfa a (Ued xs k u)))) ι:=Le.upd (Xz ha) h3 trivial _
 have dA:Zfa a (Ued xs k u) h':=Zrk dd'
 obtain⟨ob,es,ep,g1,_⟩:=id dd'
 have ok:Zde X.prog X.w (upd H a (.ext (Zfa a (Ued xs k u)))) h' a (.ext (Zfa a (Ued xs k u))):=⟨dA,⟨ob,g1⟩,fun h1 h2 d k=>Zfa.keep d k⟩
 have hr':HRep X.K (upd H a (.ext (Zfa a (Ued xs k u)))) ι (Hd.set n (.dci (Zma kvs k vd))):=by
  refine hr.upd ha h3 trivial ⟨h1,?_,_,Zas,?_⟩
  ·have:=Zxc kvs k vd; omega
  ·exact Zxd (Prd.imp P fun p x _ z=>⟨z.1,let ⟨v,z1,z2⟩:=z.2; ⟨v,z1,z2.mono L⟩⟩) rv (r3.mono L)
 exact⟨_,I.write (x:=a) (e:=a) (by rw[h3]; exact Tay) (.inl rfl) (fun b q hb z=>(hs.2 b hb).trans z) ⟨ob,g1⟩ ok,q _ ι L hr'⟩
nonrec def eDI:EF:=fun _ H=>some (.ref H.length,H++[.dci []])
theorem Zjd {pos:Pos}:PEf X (.Dict [] [] pos) eDI:=by
 rintro pins s σ H Q I ⟨ι,σd,Hd,d,Hd',sr,hr,e,q⟩
 cases e
 have hb:Uaf<s.heap.objs.size:=Nat.lt_trans (by decide) (show Vl<s.heap.objs.size from(I.mod.glob.keeps I.bk).lt)
 have hp:=I.hok.fresh (Xd s.heap.objs.size)
 have dn:Zfa s.heap.objs.size [] (s.heap.push { cls:=.type "dict",data:=.dict #[] }):=fun p w=>Heap.DictOf.new (knd:=Zwj p w) s.heap
 have ok:Zde X.prog X.w (upd H s.heap.objs.size (.ext (Zfa s.heap.objs.size []))) (s.heap.push { cls:=.type "dict",data:=.dict #[] }) s.heap.objs.size (.ext (Zfa s.heap.objs.size [])):=⟨dn,⟨_,Xf _ rfl⟩,fun h1 h2 d k=>Zfa.keep d k⟩
 refine wpAny_Dict_empty ⟨.ref s.heap.objs.size,_,I.laid (a:=s.heap.objs.size) (o:=.ext (Zfa s.heap.objs.size [])) (t':=s.toks) (fun _ _ q=>Xa _ q) (Xd _) ok,rfl,?_⟩
 have hl:ι.length=Hd.length:=hr.len
 exact q _ _ (ι++[s.heap.objs.size]) (Le.fresh1 hp _) (hr.new hp ⟨beq_eq_false_iff_ne.mpr (Uo (Xi hb)),Wbm _,[],Zas,.nil⟩) (Za1.mpr ⟨_,rfl,by rw[<- hl]; simp⟩)
end
open PySem.W (KasT kas_rev kas_asc kas_desc kas_tail3 kas_descPart kas_count kas_place kas_bin kas_sort)
section
variable {n:Nat}
variable (h0:0<n)
include h0
end
open PySem.W (KdlSrc)
def Ybd (d:Ve) (es:Array Uaj) (ep:Nat) (h:Uaa):Prop:=(d==Uaf)=false/\∃ o,h.get? d=some o/\o.ExactDict/\o.data=.dict es ep
theorem Ybd.mv {d:Ve} {es:Array Uaj} {ep:Nat} {h h':Uaa} (x:Ybd d es ep h) (k:∀ o,h.get? d=some o->h'.get? d=some o):Ybd d es ep h':=let ⟨a,o,e,r⟩:=x; ⟨a,o,k o e,r⟩
section
variable {prog:Vi} {w:Vu} {A:Vt} {E:Vb->Vd->Prop} {s:Vd}
theorem Zxu (hh:A.handled=none) (I d:Ve) (ne:d≠I) (es:Array Uaj) (ep:Nat) :
  Walks prog w A I [I,d] [I] es.size (fun i v=>∃ e,es[i]? = some e/\v=e.key) (fun i h=>h.IsKeyIter I d i es.size ep/\Ybd d es ep h) where
 sub:=fun b hb=>by simp at hb; simp[hb]
 frame:=fun _ _ _ st hk=>⟨st.1.at fun o e=>hk I (by simp) o e,st.2.mv fun o e=>hk d (by simp) o e⟩
 item:=fun i s _ _ hi st hQ=>by
  obtain⟨_,ob,g1,g2,g3⟩:=st.2
  refine Zv2 st.1 g1 g3 hi fun h' hit' hs'=>?_
  exact hQ _ h' s.toks ⟨es[i],by simp[hi],rfl⟩ ⟨hit',st.2.mv fun o e=>hs'.extBut d o ne e⟩ fun b o hb e=>hs'.extBut b o (fun h=>hb (by simp[h])) e
 done:=fun s Q E st hQ=>by
  obtain⟨_,ob,g1,g2,g3⟩:=st.2
  exact Zq6 hh st.1 g1 g3 (Xd _) fun h' he'=>hQ h' s.toks fun b o hb e=>he' b o (fun h=>hb (by simp[h])) e
 self:=fun _ _ _ _ st r=>Ucw st.1 r
theorem Ydo {d:Ve} {es:Array Uaj} {ep:Nat}:KdlSrc prog w "dict" d d es.size (fun i v=>∃ e,es[i]? = some e/\v=e.key) (Ybd d es ep) where
 type:=fun _ ⟨_,o,e,x,_⟩=>⟨o,e,x.1⟩
 there:=fun _ ⟨_,o,e,_⟩=>⟨Xe e,Xe e⟩
 keep:=fun _ _ x k=>x.mv fun o e=>k d (.inl rfl) o e
 notList:=by decide
 notTuple:=by decide
 hint:=fun _ _ _ _ ⟨_,o,e,x,_⟩ r=>PySem.W.kdl_hint_dict ⟨o,e,x.1⟩ r
 iter:=fun _ s hh x=>by
  obtain⟨h0,ob,g1,g2,g3⟩:=id x
  exact⟨_,_,(fun _ _ hq=>Zqt h0 g1 g2 g3 hq),Zxu hh _ d (Xi (Xe g1)) es ep,⟨⟨_,Xf _ rfl,rfl,rfl⟩,x.mv fun o e=>Xa _ e⟩⟩
theorem Zpm {d:Ve} {es:Array Uaj} {ep:Nat} {R:List Vb->Vd->Prop} (hh:A.handled=none) (x:Ybd d es ep s.heap) (hz:es.size<=sizeLine)
  (h:∀ h' tk,(∀ b o,s.heap.get? b=some o->h'.get? b=some o)->s.heap.objs.size<=h'.objs.size->R (es.toList.map (·.key)) { s with heap:=h',toks:=tk }):Vf (Vm prog w) A (collect (.ref d)) R E s:=by
 have hN:(s.heap.push (Uas "list" #[] 0)).get? s.heap.objs.size=some (Uas "list" #[] 0):=Xf _ rfl
 have dl:d<s.heap.objs.size:=let ⟨_,_,e,_⟩:=x; Xe e
 unfold collect
 refine Va (wpAny_runValue (Ubn Ucx (show Vf _ _ (do again (.builtin "list.__iadd__" ⟨[<- Uef [],.ref d],[]⟩)) _ _ s from Va (Uby (Vc ⟨Tcf _ (by decide +kernel),Ubn entry_list_iadd' ?_⟩)))))
 show Vf _ _ (Ut (.ref s.heap.objs.size) (.ref d) (.ref s.heap.objs.size)) _ _ { s with heap:=s.heap.push (Uas "list" #[] 0) }
 rw[Around.under_plainId (show plainId "list.__iadd__" = true by decide +kernel)]
 have E1:Vf (Vm prog w) A.in1 (Ut (.ref s.heap.objs.size) (.ref d) (.ref s.heap.objs.size)) _ _ { s with heap:=s.heap.push (Uas "list" #[] 0) }:=PySem.W.kdl_extend (s:={ s with heap:=s.heap.push (Uas "list" #[] 0) }) (R:=fun r s'=>r=.ok (.ret (.ref s.heap.objs.size))/\Vf (Vm prog w) A (load s.heap.objs.size) (fun o s2=>∃ xs ep,o.data=.seq xs ep/\R xs.toList s2) E s') (Ydo (ep:=ep)) hh (x.mv fun o e=>Xa _ e) s.heap.objs.size (Uo (Xi dl)) (Uo (Xi dl)) (.ref s.heap.objs.size) 0 hN (fun h' tk acc c k1 k2 hi=>by
  have ea:acc.toList=es.toList.map (·.key):=by
   apply Wfi
   intro i
   rw[Xr,Weo,Weo]
   by_cases hl:i<es.size
   ·have la:i<acc.size:=by rw[hi.1]; exact hl
    obtain⟨e,e1,e2⟩:=hi.2 i acc[i] (Wct la)
    rw[Wct la,e1,e2]
    rfl
   ·rw[Wde (by rw[hi.1]; omega),Wde (by omega)]
    rfl
  refine⟨rfl,wpAny_load k2 ⟨acc,c,rfl,?_⟩⟩
  rw[ea]
  exact h h' tk (fun b o e=>k1 b o (Xi (Xe e)) (Xa _ e)) (Wds (Xe k2))) hz
 have fin:∀ s',Vf (Vm prog w) A (load s.heap.objs.size) (fun o s2=>∃ xs ep,o.data=.seq xs ep/\R xs.toList s2) E s'->Vf (Vm prog w) A (do match (<- load s.heap.objs.size).data with | .seq xs _=>pure xs.toList | _=>unsupported "internal:collect") R E s':=fun s' z=>by
  refine Va (Uan z (fun o s2 zz=>?_) fun _ _ x=>x)
  obtain⟨xs,ep,e1,e2⟩:=zz
  rw[e1]
  exact Vc e2
 refine Uan E1 (fun f s' z=>?_) (fun e s' z=>?_)
 ·cases f with
  | done f =>
   obtain⟨z1,z2⟩:=z
   cases z1
   exact fin s' z2
  | again c =>
   refine⟨z.1,Ubq z.2 fun r s2 z=>?_⟩
   obtain⟨rfl,z2⟩:=z
   exact fin s2 z2
 ·cases z.1
end
end DL
namespace DL
open PySem PySem.Spec PyProof.Rows L2 PySem.W
def Fv (K:Frag) (mg:Str->Option Vb) (x:String):Prop:=∃ f,mg (Ua x)=some (.ref f)/\nsIn K Vl (Ua x)=some (some (.ref f))
theorem fv_mk {K:Frag} {hp:Uaa} {mg:Str->Option Vb} {x:String} {f:Ve} (X:K.In hp) (G:hp.Ns Vl mg) (a:nsIn K Vl (Ua x)=some (some (.ref f))):Fv K mg x:=⟨f,mg_of X G a,a⟩
nonrec def Zmj (i n:Nat) (x:String) (F:FF) (f:AF):EF:=fun σ H=>match σ[i]? with
 | some (some (.ty y))=>if y=x then Zap n F f σ H else none
 | _=>none
section
variable {X:Cx} {k n i:Nat} {ps:List Str} {x:String} {v:Str} {p pos:Pos} {F:FF} {fa:AF} {e:Vw} {es:List Vw}
theorem Ydj (h:Fv X.K X.mg x) (ht:Zy9 x=false:=by decide) (hg:Gl X (Ua x):=by rfl) (hd:(Ua x==("__debug__" : Str))=false:=by decide):PEf X (.Name (Ua x) pos) (eC (.ty x)):=by
 obtain⟨f,h1,h2⟩:=h
 exact Zo7 (Zs6 (v:=.ref f) hg h1 rfl hd) fun _ _=>(Zyx ht).mpr ⟨f,rfl,h2⟩
theorem Zte (G:Fn X.prog X.w X.K X.mg X.base k (Ua x) ps F) (hf:Fv X.K X.mg x) (hr:Room k X.A) (hv:PE X (.Name v p) (Ydh i)) (ha:PAf X (e::es) fa) (ht:Zy9 x=false:=by decide)
  (he:Vg (e::es) X.env=(false,eval e X.env)::Vg es X.env:=by exact Zbz rfl) (hpl:(Uam pos (Vg es X.env)).any (·.1)=false:=by exact Zc0 rfl) (hn:ps.length=n:=by rfl) :
  PEf X (.Call (.Name v p) (e::es) [] pos) (Zmj i n x F fa):=by
 subst hn
 intro pins s σ H Q I z
 obtain⟨ι,σd,Hd,d,Hd',ss,hr0,eq,q⟩:=z
 unfold Zmj at eq
 split at eq
 ·rename_i y hy
  split at eq
  ·rename_i ey
   subst ey
   obtain⟨v0,h1,r⟩:=ss.var i _ hy
   obtain⟨a,rfl,hns⟩:=(Zyx ht).mp r
   obtain⟨f',hm',hns'⟩:=hf
   rw[hns] at hns'
   cases hns'
   obtain⟨f,fd,G1,hb,hk,hm,_⟩:=G.ex
   rw[hm'] at hm
   cases hm
   refine Uap (thn (hv pins s σ H (fun v' H'=>v'=.ref a/\H'=H) I ⟨_,h1,rfl,rfl⟩) fun u s1 z=>?_)
   obtain⟨v',H',I1,rv,rfl,rfl⟩:=z
   have rv:u=.ref a:=rv
   subst rv
   have t:Ye2 (spF X.K ps.length F) [] E0 (rdA X.K fa) σ H' Q:=by
    obtain⟨⟨x,H1⟩,e1,e⟩:=Zo eq
    refine⟨ι,σd,Hd,x,H1,ss,hr0,e1,fun vs H' ι' l h r=>?_⟩
    dsimp only at e
    split at e
    ·rename_i hl
     exact⟨ι',x,H1,d,Hd',hl,h,by simpa using r,e,fun v2 H2 ι2 l2 h2 r2=>q v2 H2 ι2 (l.trans l2) h2 r2⟩
    ·cases e
   refine Wfa (h₀:=X.base) I1.ok.mod.kin hk (thn (ha pos pins s1 σ H' _ I1 t) fun us s2 ⟨vs,H1,I2,r,q⟩=>⟨I2.kIn,?_⟩) he hpl
   exact Zyp G1 hr hb .nil Ydb I2 r q
  ·cases eq
 ·cases eq
end
end DL
namespace DL
open PySem PySem.Spec PyProof.Rows L2
section
variable {prog:Vi} {w:Vu} {A:Vt} {E:Vb->Vd->Prop} {s:Vd}
theorem Zvp {d L:Ve} {m:Str->Option Vb} {es:Array Uaj} {ep:Nat} {ns:List Int} {Q:Vb->Vd->Prop} (hn:s.heap.Ns L m) (hh:A.handled=none) (x:Ybd d es ep s.heap) (hI:Uax (es.toList.map (·.key)) ns) (h64:es.size<64)
  (h:∀ h' tk D out c,h'.Ns L m->(∀ b o,b≠L->s.heap.get? b=some o->h'.get? b=some o)->s.heap.objs.size<=D->h'.get? D=some (Uas "list" out c)->KskOut false (ns.map Zhg) (es.toList.map (·.key)) out.toList->Q (.ref D) { s with heap:=h',toks:=tk }) :
  Vf (Vm prog w) A (call (.builtin "sorted") [.ref d] [(Ua "key",.builtin "abs")]) Q E s:=by
 have sz:sizeLine=16777216:=Ubb
 have lt:=hn.lt
 refine Ucg kind_sorted plain_sorted entry_sorted (ksk_s1 _ _) ?_
 unfold Builtin.«sorted»
 refine Va (m:=checkCount "sorted" 1 1 _) (Vc (Va (Zpm (show A.in1.handled=none from hh) x (by omega) fun h1 tk k1 le=>Va (Uby ?_ (by simp; omega)))))
 generalize ev:es.toList.map (·.key)=vs at *
 have lv:vs.length=es.size:=by rw[<- ev]; simp
 let h2:Uaa:=h1.push (Uas "list" vs.toArray 0)
 have at2:h2.get? h1.objs.size=some (Uas "list" vs.toArray 0):=Xf _ rfl
 have kp:∀ b o,s.heap.get? b=some o->h2.get? b=some o:=fun b o e=>Xa _ (k1 b o e)
 have ltD:∀ b o,s.heap.get? b=some o->b≠h1.objs.size:=fun b o e=>Xi (Xk (Xe e) le)
 have LD:h1.objs.size≠L:=Uo (Xi (Xk lt le))
 have F0:Fr {} L s.heap m:=⟨hn,fun b o e=>absurd ((Zhm b).symm.trans e) (by simp),Wbm _⟩
 have N0:News {} L s.heap (Zk6 s.heap L):=fun p hp=>⟨(Zet hp).1,(Zet hp).2,Zhm _⟩
 have ln:ns.length=vs.length:=hI.length.symm
 show Vf _ _ _ _ _ { s with heap:=h2,toks:=tk }
 refine Va (Uae (Udh (s:={ s with heap:=h2,toks:=tk }) slot_list_sort ⟨_,at2,rfl⟩ entry_list_sort ?body (ksk_l1 _ _)))
 case body =>
  show Vf (Vm prog w) A.in1.in1 (Builtin.«list.sort» ⟨[.ref h1.objs.size],[(Ua "key",.builtin "abs")]⟩) _ _ _
  rw[ksk_t4]
  refine ksk_sort (s:={ s with heap:=h2,toks:=tk }) (kz:=ns.map Zhg) (news:=Zk6 s.heap L) (F0.kept kp) (N0.grown kp) at2 LD (Zhm _) (fun p hp=>ltD _ _ (Zet hp).1)
   (by rw[Xo]; exact ln) (by omega) (fun i v k hv hk hh tk own F N=>?_) fun h' tk out c F' N' K'=>⟨_,rfl,?_⟩
  ·obtain⟨n,t,rfl,e⟩:=hI.at i v hv
   rw[Xr,e] at hk
   cases hk
   exact Udq fun u tk'=>Tcv F N fun p hp=>hp
  ·refine Vc ⟨_,rfl,h h' tk _ out c F'.ns (fun b o hb e=>?_) le ?_ K'⟩
   ·exact(N' _ (Wao _ (Zmi hb e))).1
   ·exact(N' _ (Wcj ..)).1
end
nonrec def Zht:FF:=fun ds H=>match ds with
 | [.ref n]=>match H[n]? with
  | some (.dci kvs)=>if kvs.length<64/\((kvs.map (·.1)).map Zhg).Nodup then some (.ref H.length,H++[.lst ((Zda (kvs.map (·.1))).map .int)]) else none
  | _=>none
 | _=>none
theorem Zsf {p:Vi} {w:Vu} {es:List Uaj} {xs:List (Int×Vb)} (e:Pairs (Zwj p w) es xs):Uax (es.map (·.key)) (xs.map (·.1)):=by
 induction e with
 | nil=>exact .nil
 | cons a b c ih =>
  obtain⟨t,q⟩:=Zkk a
  rw[Xl,Xl,q]
  exact .cons _ t ih
theorem Zwg {K:Xb} {H:Hp} {ι:List Ve} {kvs:List (Int×D)} {xs:List (Int×Vb)} (P:Vj (Zw9 K H ι) kvs xs):kvs.map (·.1)=xs.map (·.1):=by
 induction P with
 | nil=>rfl
 | cons a b ih=>rw[Xl,Xl,a.1,ih]
theorem Zkm {X:Cx} {a:Vw} {f:AF} {p p2 kp pos:Pos} (hcm:X.calm=true) (hg:Gl X "sorted") (hm:X.mg "sorted" = none) (hg2:Gl X "abs") (hm2:X.mg "abs" = none) (ha:PAf X [a] f) (hs:Vg [a] X.env=[(false,eval a X.env)]:=by rfl) :
  PEf X (.Call (.Name "sorted" p) [a] [⟨some "key",.Name "abs" p2,kp⟩] pos) (eCB Zht f):=by
 rintro pins s σ H Q I ⟨ι,σd,Hd,d,Hd',sr,hr,e,q⟩
 obtain⟨⟨ds,H1⟩,e1,e⟩:=Zo e
 dsimp only at e
 unfold Zht at e
 split at e
 ·rename_i n
  split at e
  ·rename_i kvs eo
   split at e
   ·rename_i hc
    show Vf _ _ (do callWith pos (<- eval (.Name "sorted" p) X.env) [] (Uam pos (Vg [a] X.env)) (Udm pos (Ubl [⟨some "key",.Name "abs" p2,kp⟩] X.env))) _ _ _
    refine Va (Ze5 I hg hm Znq (Ucy (by rw[hs]; rfl) rfl ?_))
    have hA:=ha pos pins s σ H (fun vs H'=>∃ ι',Le X.K H ι H' ι'/\HRep X.K H' ι' H1/\Vj (Rep X.K H' ι') [.ref n] vs) I ⟨ι,σd,Hd,_,_,sr,hr,e1,fun vs H' ι' l h P=>⟨ι',l,h,P⟩⟩
    rw[hs] at hA ⊢
    refine evalArgs_kwB rfl (thn hA fun us s1 ⟨vs,H2,I2,r2,ι2,l2,h2,P2⟩=>kws_cons (Ze5 I2 hg2 hm2 Zs0 (kws_nil ?_)))
    obtain⟨v,rfl,r⟩:=Zmv P2
    obtain⟨u,rfl,ru⟩:=Zi5 r2
    obtain⟨ad,rfl,had⟩:=Za1.mp r
    cases ru
    obtain⟨h3,xs,PK,dd⟩:=Zwd I2 (h2.obj n ad _ had eo)
    obtain⟨o,es,ep,g1,g2,g3,g4,g5,g6⟩:=dd
    show Vf _ _ (call (.builtin "sorted") [.ref ad] [(Ua "key",.builtin "abs")]) _ _ _
    obtain⟨m,hn,_⟩:=I2.loc
    have hI:=Zsf g5
    rw[<- Zwg PK] at hI
    have les:es.size=kvs.length:=by
     have:=hI.length
     simpa using this
    refine Zvp hn (I2.ok.hd hcm) ⟨h3,o,g1,g2,g3⟩ hI (by omega) fun h' tk Da out c hn' kk hD hat K'=>?_
    have hO:=Zy4 hI hc.2 K'
    have hl:((Zda (kvs.map (·.1))).map V.int).length<=sizeLine:=by
     rw[Xo,(Zbv (kvs.map (·.1))).length_eq,Xo]
     have:sizeLine=16777216:=Ubb
     omega
    refine⟨.ref Da,_,Zms (o:=.lst ((Zda (kvs.map (·.1))).map V.int)) I2 kk (fun m' hm'=>by rw[hm'.eq_nsMap,<- hn.eq_nsMap]; exact hn') hD ⟨hl,out.toList,c,Zmn hO,by simpa using hat⟩,rfl,?_⟩
    have hz2:((Zda (kvs.map (·.1))).map D.int).length<=sizeLine:=by simpa using hl
    exact(Zgm h2 (Zml (Zda (kvs.map (·.1)))) (show mkL ((Zda (kvs.map (·.1))).map D.int) H1=some (d,Hd') by unfold mkL; rw[if_pos hz2,e]) (fun v H' ι' l h r=>q v H' ι' (l2.trans l) h r)).2 _ (I2.hok.fresh hD)
   ·cases e
  ·cases e
 ·cases e
section
variable {X:Cx}
theorem Yc0:Vp "any" = some (.builtin "any"):=by decide +kernel
nonrec def Ydc:FF:=fun ds H=>match ds with
 | [.ref n]=>match H[n]? with
  | some (.lst xs)=>(Yb1 xs).map fun bs=>(.bl (bs.any id),H)
  | _=>none
 | _=>none
theorem Zu4 (bs:List Bool):((Wcv bs.length).any fun i=>(bs[i]?).getD false)=bs.any id:=by
 rw[Wen,Wau,Wau]
 constructor
 ·rintro⟨i,hi,h⟩
  have hi:i<bs.length:=by simpa using hi
  exact⟨bs[i],Xy hi,by simpa [hi] using h⟩
 ·rintro⟨x,hx,h⟩
  obtain⟨i,hi,rfl⟩:=Wex hx
  exact⟨i,by simpa using hi,by simpa [hi] using h⟩
theorem Zsw (hc:X.calm=true):Zid X (.builtin "any") Ydc:=by
 rintro pins s σ H xs us Q I rv ⟨ι,ds,Hd,d,Hd',hr,P,e,q⟩
 unfold Ydc at e
 split at e
 ·rename_i n
  split at e
  ·rename_i ys eo
   obtain⟨bs,e1,e⟩:=Zm e
   obtain⟨rfl,rfl⟩:=Wbd.inj e
   obtain⟨v,rfl,r⟩:=Zmv P
   obtain⟨a,rfl,ha⟩:=Za1.mp r
   obtain⟨vs,h1,P2⟩:=hr.obj n a _ ha eo
   cases rv with
   | cons rx rv =>
    cases rv
    cases rx
    obtain⟨its,rv2,p,hz⟩:=I.list (SqL.of h1)
    have eits:=Zjf e1 P2 rv2
    have hlt:a<s.heap.objs.size:=by
     obtain⟨o,ho,_⟩:=p.isList
     exact Xe ho
    refine call_any_walk (Uak p.isList ⟨s.heap.objs.size,[s.heap.objs.size,a],[s.heap.objs.size],its.toArray.size,_,_,fun i=>(bs[i]?).getD false,rfl,
     Walks.list (A:=X.A.in1) (show X.A.in1.handled=none from I.ok.hd hc) s.heap.objs.size a (Xi hlt) its.toArray,⟨⟨_,Xf _ rfl,rfl,rfl⟩,p.isList.at fun o z=>Xa _ z⟩,?_,fun h' tk k=>?_⟩)
    ·intro i v s2 Q2 E2 hv hq
     rw[eits] at hv
     have hv2:(bs.map Tbw)[i]? = some v:=by simpa using hv
     rw[Xr] at hv2
     obtain⟨b,hb,rfl⟩:=Zm hv2
     refine Vv ?_
     simpa [hb] using hq
    ·have hn:its.toArray.size=bs.length:=by rw[eits]; simp
     rw[hn,Zu4]
     refine⟨.bl (bs.any id),H,I.kept (t':=tk) fun b o z=>k b o ?_ (Xa _ z),rfl,q _ H ι Le.refl hr (by simp)⟩
     intro hm
     have:b=s.heap.objs.size:=by simpa using hm
     exact absurd (this ▸ Xe z) (Waz _)
  ·cases e
 ·cases e
end
end DL
namespace DL
open PySem PySem.Spec PyProof.Rows L2 PySem.W
nonrec def cxCl (P:Vi) (w:Vu) (K:Xb) (mg:Str->Option Vb) (base:Uaa) (N:List Str) (qual:Str) (scope:Ubj) (f:Ve) (cd:Vb) (cl:List (Str×Ve)) (A:Vt) (outer:List Env) (s:Vd) (H:Hp):Cx where
 prog:=P
 w:=w
 K:=K
 mg:=mg
 base:=base
 A:=A.deeper (envX qual scope s.heap.objs.size f cd cl)
 N:=N
 s₀:=s
 H₀:=H
 env:=envX qual scope s.heap.objs.size f cd cl
 outer:=outer
 stack:=envX qual scope s.heap.objs.size f cd cl::outer
 ex:=[]
 calm:=true
 fn:=fun _=>false
 pn:=[]
 xe:=fun _ _=>False
structure ClScope (N ps:List Str) (x:Str) (sc:Ubj):Prop where
 kind:sc.kind=.function
 co:sc.isCoroutine=false
 gen:sc.isGenerator=false
 nd:N.Nodup
 pre:N.take (ps.length+1)=ps++[x]
 par:∀ p∈ps,sc.names.lookup p=some .local
 nocell:∀ y∈sc.names,y.2≠.cell
 fx:sc.names.lookup x=some .free
 fo:∀ y∈sc.names,y.2=.free->y.1=x
nonrec def Zh2 (N:List Str) (vs:List V) (w:V):L2.St:=(vs++[w]).map some++Xv (N.length - (vs.length+1)) none
theorem Zqx {y:Str}:∀ {ps:List Str} {us:List Vb},y∉ps->(ps.zip us).reverse.lookup y=none
 | [],_,_=>rfl
 | _::_,[],_=>rfl
 | p::ps,u::us,h=>by
  rw[Wck,Wec,Wdv,Zqx (fun z=>h (by simp[z])),Wam]
  have:(y==p)=false:=by rw[beq_eq_false_iff_ne]; exact fun z=>h (by simp[z])
  rw[this]
  rfl
theorem Zp7 {y:Str} {u:Vb}:∀ {ps:List Str} {us:List Vb} {i:Nat},ps.Nodup->ps[i]? = some y->us[i]? = some u->(ps.zip us).reverse.lookup y=some u
 | [],_,_,_,h,_=>by simp at h
 | _::_,[],_,_,_,h=>by simp at h
 | p::ps,v::us,0,nd,h1,h2=>by
  simp at h1 h2
  subst h1 h2
  rw[Wck,Wec,Wdv,Zqx (Wav.mp nd).1,Wam]
  simp
 | p::ps,v::us,i+1,nd,h1,h2=>by
  rw[Wck,Wec,Wdv,Zp7 (Wav.mp nd).2 (by simpa using h1) (by simpa using h2)]
  rfl
section
variable {P:Vi} {w:Vu} {K:Xb} {mg:Str->Option Vb} {base:Uaa} {N ps:List Str} {x qual:Str} {scope:Ubj} {f c:Ve} {cd:Vb} {A:Vt} {outer:List Env} {s:Vd} {H:Hp} {us:List Vb} {vs:List V} {wv:V} {oc:Obj} {u:Vb}
theorem Zrq {h₁:Uaa} {tk:Nat} (S:ClScope N ps x scope) (hd:A.handled=none) (e0:Env0 P w K mg base A outer s H) (hl:vs.length=ps.length) (r:Zb7 vs us) {uc:HO} (hc:H c=some (.frz oc uc)) (hcd:oc.data=.cell (some u)) (rw':Zcg wv u)
  (hns:h₁.Ns s.heap.objs.size (fun y=>(ps.zip us).reverse.lookup y)) (hk:∀ b o,s.heap.get? b=some o->h₁.get? b=some o) :
  Inv (cxCl P w K mg base N qual scope f cd [(x,c)] A outer s H) [] (Zh2 N vs wv) H { s with heap:=h₁,toks:=tk }:=by
 have hN:ps.length+1<=N.length:=by have:=congrArg Wbo S.pre; rw[Wat,Xq] at this; simp at this; omega
 have hcl:∀ y z,([(x,c)]:List (Str×Ve)).lookup y=some z->y=x/\z=c:=fun y z h=>by
  rw[Wam] at h
  cases hb:y==x with
  | true=>rw[hb] at h; cases h; exact⟨eq_of_beq hb,rfl⟩
  | false=>rw[hb] at h; simp at h
 have hlx:([(x,c)]:List (Str×Ve)).lookup x=some c:=by rw[Wam]; simp
 have gc:s.heap.get? c=some oc:=(e0.hok c _ hc).1
 have noA:∀ b:Ve,b∉(cxCl P w K mg base N qual scope f cd [(x,c)] A outer s H).ex:=fun b z=>absurd (show b∈([]:List Ve) from z) (by simp)
 refine⟨⟨e0.mod,S.kind,rfl,rfl,Xd _,fun y z d h1 h2=>?_,fun y hy=>?_,fun y d h=>absurd h (by show ¬ (false=true); simp),fun _=>hd,Tby e0.frames,.inr ⟨rfl,rfl⟩,fun b z=>absurd z (noA b),e0.bs,e0.bsz,fun b _ _=>noA b,fun b z=>absurd z (noA b),e0.funs,e0.frf⟩,
  rfl,e0.bare,Un.kept hk,⟨_,hns,fun i y v h1 h2 h3=>?_⟩,fun y d h=>?_,e0.hok.fresh (Xd _),fun y d h=>?_,fun p hp=>absurd (show p∈([]:List (Ve×Obj)) from hp) (by simp),e0.hok.kept hk,?_⟩
 ·rw[(hcl _ _ h1).1,(hcl _ _ h2).1]
 ·have hy:scope.names.lookup y=some .cell\/scope.names.lookup y=some .free:=hy
  rcases hy with hy | hy
  ·exact absurd rfl (S.nocell _ (Uh hy))
  ·have:=S.fo _ (Uh hy) rfl
   have this:y=x:=this
   subst this
   exact⟨c,hlx⟩
 ·have hi:i<vs.length+1:=by
   unfold Zh2 at h2
   by_cases hi:i<vs.length+1
   ·exact hi
   ·rw[Xu (by simpa using hi)] at h2
    rw[Wbr] at h2
    split at h2<;>cases h2
  have h2':(vs++[wv])[i]? = some v:=by
   unfold Zh2 at h2
   rw[Xh (by simpa using hi),Xr] at h2
   cases e:(vs++[wv])[i]? with
   | none=>rw[e] at h2; cases h2
   | some a=>rw[e] at h2; cases h2; rfl
  have h1':(ps++[x])[i]? = some y:=by
   rw[<- S.pre,Wbh (by omega)]; exact h1
  by_cases hv:i<vs.length
  ·rw[Xh hv] at h2'
   rw[Xh (by omega)] at h1'
   obtain⟨u',hu,rv⟩:=r.get h2'
   refine⟨u',rv,.inl ⟨S.par y (Xz h1'),?_⟩⟩
   have ndP:ps.Nodup:=by
    have:(ps++[x]).Nodup:=by rw[<- S.pre]; exact S.nd.sublist (Wff _ _)
    exact(Waq.mp this).1
   exact Zp7 ndP h1' hu
  ·have e:i=vs.length:=by omega
   subst e
   rw[Xu (by omega)] at h2'
   rw[Xu (by omega)] at h1'
   simp at h2'
   subst h2'
   rw[hl] at h1'
   simp at h1'
   subst h1'
   exact⟨u,rw',.inr ⟨.inr S.fx,c,hlx,oc,hk _ _ gc,hcd⟩⟩
 ·obtain⟨_,rfl⟩:=hcl _ _ h
  exact⟨_,oc,hk _ _ gc,hcd⟩
 ·obtain⟨_,rfl⟩:=hcl _ _ h
  exact .inr ⟨rfl,oc,_,hc⟩
 ·unfold Zh2
  show _=N.length
  simp only[Xq,Xo,Wej,Wbj]
  omega
def ClOk (P:Vi) (w:Vu) (K:Xb) (mg:Str->Option Vb) (base:Uaa) (k:Nat) (n:String) (x:Str) (m:Nat) (F:D->FF):Prop :=
 ∀ (A:Vt) (outer:List Env) (s:Vd) (H:Hp) (us:List Vb) (vs:List V) (Q:VK) (a:Ve) (wv:V),Room k A->Env0 P w K mg base A outer s H->Zsd K H n x a wv->Zb7 vs us ->
  (∃ ι d ds Hd d' Hd',ds.length=m/\HRep K H ι Hd/\Rep K H ι d wv/\Vj (Rep K H ι) ds vs/\F d ds Hd=some (d',Hd')/\QE K H ι d' Hd' Q) ->
  Ucl (Vm P w) A (.call (.ref a) ⟨us,[]⟩) (CR CX0 outer P w H s Q E0) s
nonrec def Yb9 (n N:Nat) (b:SF) (d:D):FF:=fun ds H=>if ds.length=n then (b ((ds++[d]).map some++Xv (N - (n+1)) none) H).bind fun r=>match r.1 with
  | .rt d=>some (d,r.2.2)
  | .nx=>some (.non,r.2.2)
  | _=>none
 else none
theorem fn_cl {k:Nat} {n:String} {st:Uab} {b:SF} (hst:∀ st',Zi1 K n st'->st'=st) (S:ClScope N ps x (Zad st))
  (hbd:∀ (nm qual:Str) (doc pm ct:Vb) (c c':Ve) (us:List Vb),us.length=ps.length->Ucs (fnX nm qual (Zcu st) (Za8 st) (Zad st) [(x,c)] .none .none doc pm none (.ref c') ct) ⟨us,[]⟩=pure (ps.zip us))
  (hb:∀ (qual:Str) (f:Ve) (cdv:Vb) (c:Ve) (A:Vt) (outer:List Env) (s:Vd) (H:Hp),Room k (A.deeper (envX qual (Zad st) s.heap.objs.size f cdv [(x,c)]))->Zp0 (cxCl P w K mg base N qual (Zad st) f cdv [(x,c)] A outer s H) (Za8 st) b) :
  ClOk P w K mg base (k+1) n x ps.length (Yb9 ps.length N.length b):=by
 rintro A outer s H us vs Q a wv hr e0 hca r ⟨ι,d,ds,Hd,d',Hd',hl,hh,rd,rp,e,q⟩
 obtain⟨st',nm,qual,doc,pm,ct,c,c',oc,uc,u,h1,h2,⟨o3,vs3,t3,h3,h3d,h3v⟩,h4,h5,h6⟩:=hca
 obtain rfl:=hst st' h1
 have lv:vs.length=ps.length:=by rw[<- Prd.len rp]; exact hl
 have lu:us.length=ps.length:=by rw[<- r.length]; exact lv
 have lim:s.heap.NoLimit:=e0.mod.nolimit.keeps fun b o e=>(e0.bs b o e).1
 have g2:s.heap.get? a=some (fnMade nm qual (Zcu st') (Za8 st') (Zad st') [(x,c)] doc pm c' ct):=(e0.hok a _ h2).1
 have g3:s.heap.get? c'=some o3:=(e0.hok c' _ h3).1
 refine codeAny_call_def (binds:=ps.zip us) hr.depth g2 rfl lim ⟨c',o3,vs3,t3,rfl,g3,h3d,h3v⟩ rfl (.of_eq (hbd nm qual doc pm ct c c' us lu)) S.nocell (fun y hy=>S.par _ (Wcy hy).1) (fun h₀ hns hk=>?_) S.co S.gen S.kind
 have I:=Zrq (qual:=qual) (f:=a) (cd:=.ref c') (tk:=s.toks+(ps.zip us).length) S hr.hd e0 lv r h4 h5 h6 hns hk
 unfold Yb9 at e
 rw[if_pos hl] at e
 obtain⟨⟨fl,σ1,H1⟩,e1,e⟩:=Zo e
 have hN:ps.length+1<=N.length:=by have:=congrArg Wbo S.pre; rw[Wat,Xq] at this; simp at this; omega
 have rp':Vj (Rep K H ι) (ds++[d]) (vs++[wv]):=Prd.append rp (.cons rd .nil)
 have ss:SRep K H ι (Zh2 N vs wv) ((ds++[d]).map some++Xv (N.length - (ps.length+1)) none):=by
  refine⟨by simp[Zh2,lv,hl],fun i d0 h0=>?_⟩
  unfold Zh2
  by_cases hi:i<(ds++[d]).length
  ·rw[Xh (by simpa using hi),Xr] at h0
   cases ed:(ds++[d])[i]? with
   | none=>rw[ed] at h0; cases h0
   | some d1 =>
    rw[ed] at h0
    cases h0
    obtain⟨v,hv,rv⟩:=Prd.get rp' ed
    refine⟨v,?_,rv⟩
    rw[Xh (by rw[Xo,<- Prd.len rp']; exact hi),Xr,hv]
    rfl
  ·rw[Xu (by simpa using hi),Wbr] at h0
   split at h0<;>cases h0
 have body:=hb qual a (.ref c') c A outer s H (hr.deeper _) [] _ (Zh2 N vs wv) H { nx:=fun _ H'=>Q .non H',rt:=Q } I ⟨ι,_,Hd,fl,σ1,H1,ss,hh,e1,fun σ' H' ι' l h s'=>by
  cases fl with
  | rt d1=>cases e; exact fun v rv=>q v H' ι' l h rv
  | nx=>cases e; exact q .non H' ι' l h (by simp)
  | bk=>cases e
  | ct=>cases e⟩
 refine Uan body (fun fl s' hs=>?_) fun e s' hs=>hs.elim
 have fin:∀ {σ':L2.St} {H':Hp} {v:V} {u:Vb},Inv (cxCl P w K mg base N qual (Zad st') a (.ref c') [(x,c)] A outer s H) [] σ' H' s'->Zcg v u->Q v H'->CE outer P w H s Q u s' :=
  fun {σ' H' v u} J rv q=>⟨v,H',J.os,J.bare,J.base,J.hok,rv,q⟩
 cases fl with
 | ret u =>
  obtain⟨v,σ',H',J,rv,q⟩:=hs
  exact fin J rv q
 | next =>
  obtain⟨σ',H',J,q⟩:=hs
  exact fin (v:=V.non) (u:=Ur) J rfl q
 | brk =>
  obtain⟨_,_,_,q⟩:=hs
  exact Uj q
 | cont =>
  obtain⟨_,_,_,q⟩:=hs
  exact Uj q
end
nonrec def Zng (i m:Nat) (n:String) (x:Str) (F:D->FF) (f:AF):EF:=fun σ H=>match σ[i]? with
 | some (some (.ref j))=>match H[j]? with
  | some (.clo n' x' d)=>if n'=n/\x'=x then (f σ H).bind fun p=>if p.1.length=m then F d p.1 p.2 else none else none
  | _=>none
 | _=>none
section
variable {X:Cx} {k m i:Nat} {n:String} {x v:Str} {p pos:Pos} {F:D->FF} {fa:AF} {e:Vw} {es:List Vw}
theorem Zvg (G:ClOk X.prog X.w X.K X.mg X.base k n x m F) (hr:Room k X.A) (hv:PE X (.Name v p) (Ydh i)) (ha:PAf X.nox (e::es) fa)
  (he:Vg (e::es) X.env=(false,eval e X.env)::Vg es X.env:=by exact Zbz rfl) (hpl:(Uam pos (Vg es X.env)).any (·.1)=false:=by exact Zc0 rfl) :
  PEf X (.Call (.Name v p) (e::es) [] pos) (Zng i m n x F fa):=by
 intro pins s σ H Q I z
 obtain⟨ι,σd,Hd,d,Hd',ss,hr0,eq,q⟩:=z
 unfold Zng at eq
 split at eq
 ·rename_i j hj
  split at eq
  ·rename_i n' x' dd hc
   split at eq
   ·rename_i hn
    obtain⟨rfl,rfl⟩:=hn
    obtain⟨⟨ds,H1⟩,e1,eq⟩:=Zo eq
    dsimp only at eq
    split at eq
    ·rename_i hm
     obtain⟨v0,h1,r⟩:=ss.var i _ hj
     obtain⟨a,rfl,ia⟩:=Za1.mp r
     obtain⟨wv,ca,rd⟩:=hr0.obj j a _ ia hc
     have fnAt:∀ {H':Hp} {s':Vd},Zsd X.K H' n' x' a wv->HOk X.prog X.w H' s'.heap->FnAt a s'.heap:=fun {H' s'} ca hok=>by
      obtain⟨st',nm,qual,doc,pm,ct,c,c',oc,uc,u,_,h2,_⟩:=ca
      exact⟨_,_,_,_,(hok a _ h2).1⟩
     refine Uap (thn (hv pins s σ H (fun v' H'=>v'=.ref a/\H'=H) I ⟨_,h1,rfl,rfl⟩) fun u s1 z=>?_)
     obtain⟨v',H',I1,rv,rfl,rfl⟩:=z
     have rv:u=.ref a:=rv
     subst rv
     refine callWith_F (fnAt ca I1.hok) (Uan (ha pos pins s1 σ H' (fun vs H2=>∃ ι',Le X.K H' ι H2 ι'/\HRep X.K H2 ι' H1/\Vj (Rep X.K H2 ι') ds vs) (I1.wish _) ⟨ι,σd,Hd,ds,H1,ss,hr0,e1,fun vs H2 ι' l h P=>⟨ι',l,h,P⟩⟩) (fun us s2 z=>?_) fun _ _ z=>z.elim) he hpl
     obtain⟨vs,H2,I2,r2,ι2,l2,h2,P2⟩:=z
     have I2:Inv X pins σ H2 s2:=I2.unwish
     have ca2:=ca.step l2.toLw
     refine⟨fnAt ca2 I2.hok,wpAny_call (Ubq (G X.A X.stack s2 H2 us vs Q a wv hr I2.env0 ca2 r2 ⟨ι2,dd,ds,H1,d,Hd',hm,h2,rd.mono l2,P2,eq,fun v3 H3 ι3 l3 h3 r3=>q v3 H3 ι3 (l2.trans l3) h3 r3⟩) fun r s' hq=>?_)⟩
     cases r with
     | error e=>exact Uj hq
     | ok fl =>
      cases fl with
      | ret u=>exact I2.after hq
      | next=>exact Uj hq
      | brk=>exact Uj hq
      | cont=>exact Uj hq
    ·cases eq
   ·cases eq
  ·cases eq
 ·cases eq
end
end DL
namespace L2
open PySem PySem.Spec PyProof.Rows
nonrec abbrev Cx.nofn (X:Cx):Cx:={ X with fn:=fun _=>false }
theorem Cx.Ok.nofn {X:Cx} (ok:X.Ok):X.nofn.Ok :=
 ⟨ok.mod,ok.kind,ok.glob,ok.blt,ok.above,ok.inj,ok.has,fun _ _ h=>absurd h (by simp),ok.hd,ok.frames,ok.stk,ok.exf,ok.bs,ok.bsz,ok.noex,ok.exfs,ok.funs,ok.frf⟩
section
variable {X:Cx} {pins:List (Ve×Obj)} {σ:St} {H:Hp} {s:Vd}
theorem Inv.nofn (I:Inv X pins σ H s):Inv X.nofn pins σ H s:=⟨I.ok.nofn,I.os,I.bare,I.base,I.loc,I.cell,I.free,fun x c e=>(I.freeC x c e).imp id fun z=>⟨rfl,z.2⟩,I.pin,I.hok,I.len⟩
theorem Inv.freeze {x:Str} {cx:Ve} (I:Inv X pins σ H s) (hfn:∀ y,X.fn y=false) (hc:X.env.cells.lookup x=some cx) (hnew:X.s₀.heap.objs.size<=cx) :
  ∃ H1 oc uc,Inv X pins σ H1 s/\H1 cx=some (.frz oc uc)/\s.heap.get? cx=some oc/\(H1=H\/(H cx=none/\H1=upd H cx (DL.fzO cx oc))):=by
 rcases I.freeC x cx hc with h0 | ⟨_,o,u,h0⟩
 ·obtain⟨v,o,ho,hd⟩:=I.cell x cx hc
  refine⟨_,o,_,?_,Zas,ho,.inr ⟨h0,rfl⟩⟩
  have stay:∀ b u,H b=some u->b≠cx:=fun b u e=>Zai e h0
  refine⟨I.ok,I.os,I.bare,⟨I.base.keep,I.base.slot,fun b ob e n hx=>?_,I.base.there,fun b xs e=>?_,fun b ob xs e=>?_,fun b ps e=>?_⟩,I.loc,I.cell,?_,fun y c e=>?_,fun p hp=>?_,fun b ob e=>?_,I.len⟩
  ·rw[Zah (Xi (Xk (Xe e) hnew))]; exact I.base.free b ob e n hx
  ·rw[Zah (stay _ _ (I.base.tups b xs e))]; exact I.base.tups b xs e
  ·rw[Zah (stay _ _ (I.base.frzs b ob xs e))]; exact I.base.frzs b ob xs e
  ·obtain⟨m,e1⟩:=I.base.tbls b ps e
   exact⟨m,by rw[Zah (stay _ _ e1)]; exact e1⟩
  ·rw[Zah (Uo (I.cne x cx hc))]; exact I.free
  ·by_cases hcc:c=cx
   ·subst hcc; exact .inr ⟨hfn y,_,_,Zas⟩
   ·rw[Zah hcc]; exact I.freeC y c e
  ·obtain⟨h1,h2,h3,h4,h5⟩:=I.pin p hp
   refine⟨h1,?_,h3,h4,h5⟩
   rw[Zah (fun z=>?_)]
   ·exact h2
   ·rw[z,ho] at h1; cases h1; exact h5 _ hd
  ·by_cases hb:b=cx
   ·subst hb; rw[Zas] at e; cases e; exact⟨ho,ho,⟨o,ho⟩,fun h1 h2 a k=>k _ a⟩
   ·rw[Zah hb] at e
    exact(I.hok b ob e).stay (fun c v _ q=>q) (fun c q=>by rw[Zah (stay _ _ q)]; exact q) (fun c xs q=>by rw[Zah (stay _ _ q)]; exact q)
 ·exact⟨H,o,u,I,h0,(I.hok cx _ h0).1,.inl rfl⟩
end
theorem Ydr {P:Vi} {w:Vu} {K:Xb} {mg:Str->Option Vb} {base:Uaa} {k:Nat} {f:Ve} {name qual:Str} {params:Udz} {body:List Uab} {scope:Ubj} {dV kV doc pm cdv ct oc:Vb} {an od:Option Ve}
  {osl:Array (Option Vb)} {N ps:List Str} {sp:Sp} (lk:K.lookup f=some ⟨oc,od,.func (Wbi name qual params body scope dV kV doc pm an cdv ct),osl⟩) (hcd:Wcs K cdv qual=true) (S:FnScope N ps scope)
  (len:∀ vs H Q E,sp vs H Q E->vs.length=ps.length)
  (hbody:∀ (A:Vt) (outer:List Env) (s:Vd) (H:Hp) (vs:List V) (Q:VK) (E:XK),Room k (A.deeper (Uba qual scope s.heap.objs.size f cdv))->(∀ y z,(Uba qual scope s.heap.objs.size f cdv).cells.lookup y=some z->s.heap.objs.size<=z)->sp vs H Q E ->
   ∃ t,PSs (Zmk CX0 P w K mg base N qual scope f cdv A outer s H E).nox.nofn body t/\t { nx:=fun _ H'=>Q .non H',rt:=Q } (start N vs) H) :
  FnOk P w K mg base CX0 (k+1) f (Wbi name qual params body scope dV kV doc pm an cdv ct) ps sp:=by
 refine⟨len,fun A outer s H args us vs Q E hr e0 hb r hsp=>?_⟩
 have hl:=len _ _ _ _ hsp
 have KX:K.In s.heap:=e0.mod.kin.keeps fun b o e=>(e0.bs b o e).1
 have lim:s.heap.NoLimit:=e0.mod.nolimit.keeps fun b o e=>(e0.bs b o e).1
 have hkind:∀ y∈ps.zip us,scope.names.lookup y.1=some .local\/(scope.names.lookup y.1=some .cell/\((Udy (s.heap.objs.size+1) scope.names []).lookup y.1).isSome=true):=fun⟨n,v⟩ hy=>by
  rcases S.par n (Wcy hy).1 with q | q
  ·exact .inl q
  ·exact .inr ⟨q,Wdc _ _ _ (.inl q)⟩
 refine Ucm hr.depth (KX _ _ lk) rfl S.co S.gen rfl (Wfb KX hcd) (hb _ _ _ _ ?_)
 refine Ubo S.kind hkind fun env he s1 x=>?_
 subst he
 refine⟨lim.keeps x.toInCall.keep,codeAny_func ?_⟩
 have I:Inv (Zmk CX0 P w K mg base N qual scope f cdv A outer s H E) [] (start N vs) H s1:=Zn7 S hr.hd e0 hl r x
 obtain⟨t,ht,hq⟩:=hbody A outer s H vs Q E (hr.deeper _) (fun y z e=>I.ok.cab y z rfl e) hsp
 refine Uan (ht [] s1 (start N vs) H _ (I.wish _).nofn hq) (fun fl s' hs=>?_) fun e s' hs=>hs.elim
 have fin:∀ {σ':St} {H':Hp} {v:V} {u:Vb},Inv (Zmk CX0 P w K mg base N qual scope f cdv A outer s H E).nox.nofn [] σ' H' s'->Zcg v u->Q v H'->CE outer P w H s Q u s' :=
  fun {σ' H' v u} J rv q=>⟨v,H',J.os,J.bare,J.base,J.hok,rv,q⟩
 cases fl with
 | ret u =>
  obtain⟨v,σ',H',J,rv,q⟩:=hs
  exact fin J rv q
 | next =>
  obtain⟨σ',H',J,q⟩:=hs
  exact fin (v:=V.non) (u:=Ur) J rfl q
 | brk =>
  obtain⟨_,_,_,q⟩:=hs
  exact Uj q
 | cont =>
  obtain⟨_,_,_,q⟩:=hs
  exact Uj q
end L2
namespace DL
open PySem PySem.Spec PyProof.Rows L2 PySem.W
theorem Zrv {K:Xb} {n:Str} {f c P:Ve} {oc:Vb} {od:Option Ve} {fd:Uaq} {sl:Array (Option Vb)} (h:Uec K n=some (c,P)) (hn:nsIn K Vl n=some (some (.ref f))) (hl:K.lookup f=some ⟨oc,od,.func fd,sl⟩):fd.code=.ref c:=by
 unfold Uec at h
 rw[hn] at h
 simp only[hl] at h
 split at h
 ·rename_i c2 hc
  split at h
  ·split at h
   ·cases h; exact hc
   ·cases h
  ·cases h
 ·cases h
section
variable {P:Vi} {w:Vu} {K:Xb} {mg:Str->Option Vb} {base:Uaa}
theorem fn_fN {x qual n:Str} {st:Uab} {f c T:Ve} {fd:Uaq} {N ps:List Str} {k:Nat} {b:SF} (F:Fun K x qual st f fd) (S:FnScope N ps (Zad st)) (hn:nsIn K Vl n=some (some (.ref f))) (ht:Uec K n=some (c,T))
  (hb:∀ (A:Vt) (outer:List Env) (s:Vd) (H:Hp) (E:XK),Room k (A.deeper (Uba qual (Zad st) s.heap.objs.size f (.ref c)))->(∀ y z,(Uba qual (Zad st) s.heap.objs.size f (.ref c)).cells.lookup y=some z->s.heap.objs.size<=z) ->
   Zp0 (Zmk CX0 P w K mg base N qual (Zad st) f (.ref c) A outer s H E).nox.nofn (Za8 st) b):FnOk P w K mg base CX0 (k+1) f fd ps (spF K ps.length (Za4 ps.length N.length b)):=by
 obtain⟨oc,od,kV,doc,pm,an,cdv,ct,osl,rfl,lk,hcd⟩:=F.ex
 obtain rfl:cdv=.ref c:=Zrv ht hn lk
 refine Ydr lk hcd S (fun vs H Q E h=>?_) (fun A outer s H vs Q E hr hnew h=>?_)
 ·obtain⟨ι,ds,Hd,d,Hd',hl,_,r,_⟩:=h
  rw[<- Prd.len r]; exact hl
 ·obtain⟨ι,ds,Hd,d,Hd',hl,hh,r,e,q⟩:=h
  refine⟨_,hb A outer s H E hr hnew,?_⟩
  unfold Za4 at e
  rw[if_pos hl] at e
  obtain⟨⟨fl,σ1,H1⟩,e1,e⟩:=Zo e
  refine⟨ι,_,Hd,fl,σ1,H1,?_,hh,e1,fun σ' H' ι' l h ss=>?_⟩
  ·refine⟨by simp[L2.start,Prd.len r],fun i d0 h0=>?_⟩
   unfold L2.start
   by_cases hi:i<ds.length
   ·rw[Xh (by simpa using hi),Xr] at h0
    cases ed:ds[i]? with
    | none=>rw[ed] at h0; cases h0
    | some d1 =>
     rw[ed] at h0
     cases h0
     obtain⟨v,hv,rv⟩:=Prd.get r ed
     refine⟨v,?_,rv⟩
     rw[Xh (by rw[Xo,<- Prd.len r]; exact hi),Xr,hv]
     rfl
   ·rw[Xu (by simpa using hi),Wbr] at h0
    split at h0<;>cases h0
  ·cases fl with
   | rt d1=>cases e; exact fun v rv=>q v H' ι' l h rv
   | nx=>cases e; exact q .non H' ι' l h (by simp)
   | bk=>cases e
   | ct=>cases e
end
nonrec def sDef (t i j:Nat) (n:String) (x:Str):SF:=fun σ H=>match σ[j]? with
 | some (some d)=>match H[t]? with
  | some (.tab n' _)=>if n'=n then some (.nx,σ.set i (some (.ref H.length)),H.set t (.tab n true)++[.clo n x d]) else none
  | _=>none
 | _=>none
section
variable {X:Cx}
theorem Ya2 {n:String} {x name:Str} {params:Udz} {body:List Uab} {scope:Ubj} {pos:Pos} {i j t:Nat} {c P cx:Ve}
  (hst:∀ st',Zi1 X.K n st'->st'=.FunctionDef name params body [] none [] scope none name pos)
  (hfn:∀ y,X.fn y=false) (hN:X.N.Nodup) (hj:X.N[j]? = some x) (hxc:X.env.scope.names.lookup x=some .cell) (hi:X.N[i]? = some name) (hl:X.env.scope.names.lookup name=some .local)
  (hcode:X.env.code=.ref c) (ht:Uec X.K (Ua n)=some (c,P)) (C:CodeHd X.base c P) (B:X.base.BuiltinsAt X.mg P) (hq:qualnameIn X.env name name=Ua n ++ ".<locals>." ++ name)
  (hcx:X.env.cells.lookup x=some cx) (hcl:closureFor scope X.env=pure [(x,cx)]) (hnew:X.s₀.heap.objs.size<=cx) (hd0:params.defaults=[]) (hk0:params.kw_defaults=[]) (ha:annTrees params none X.env=[]) :
  PSf X (.FunctionDef name params body [] none [] scope none name pos) (sDef t i j n x):=by
 rintro pins s σ H D I ⟨ι,σd,Hd,fl,σd',Hd',ss,hh,e,q⟩
 unfold sDef at e
 split at e
 ·rename_i d hd
  split at e
  ·rename_i n' b hb
   split at e
   ·rename_i hn'
    subst hn'
    have e':=Wac.inj e
    obtain⟨rfl,e2⟩:=Wbd.inj e'
    obtain⟨rfl,rfl⟩:=Wbd.inj e2
    obtain⟨H1,oc,uc,I1,e1,g1,hH⟩:=I.freeze hfn hcx hnew
    have hh1:HRep X.K H1 ι Hd/\Le X.K H ι H1 ι:=by
     rcases hH with rfl | ⟨z,rfl⟩
     ·exact⟨hh,Le.refl⟩
     ·exact⟨hh.tup z _,Le.fresh z _⟩
    obtain⟨hh1,l1⟩:=hh1
    obtain⟨v,hv,rv⟩:=ss.var j d hd
    have rv1:Rep X.K H1 ι d v:=rv.mono l1
    obtain⟨m,hns,hloc⟩:=id I1.loc
    obtain⟨u,ru,lk⟩:=hloc j x v hj hv (.inr (.inl hxc))
    have cu:oc.data=.cell (some u):=by
     rcases lk with ⟨k1,_⟩ | ⟨_,c2,k2,o2,k3,k4⟩
     ·have k1:X.env.scope.names.lookup x=some .local:=k1
      rw[hxc] at k1; cases k1
     ·rw[hcx] at k2; cases k2; rw[g1] at k3; cases k3; exact k4
    obtain⟨a,ha1,T⟩:=hh1.at hb
    obtain⟨st',c2,ps,t1,t2,t3,t4,t5,t6⟩:=T
    have est:=hst st' t1
    subst est
    rw[ht] at t2; cases t2
    have gP:s.heap.get? P=some (tabObj ps):=I1.hok P _ t3
    have GG:s.heap.Ns Vl X.mg:=I1.mod.glob.keeps I1.bk
    have CC:=C.keeps I1.bk
    have BB:s.heap.BuiltinsAt X.mg P:=by
     obtain⟨bm,ob,b1,b2,b3,b4,b5,b6⟩:=B
     exact⟨bm,ob,b1,b2,b3,b4,I1.bk _ _ b5,b6⟩
    have fin:∀ (f':Ve) (H2:Hp) (s2:Vd),Inv X pins σ H2 s2->Le X.K H1 ι H2 (ι++[f'])->HRep X.K H2 (ι++[f']) (Hd.set t (.tab n' true)++[.clo n' x d]) ->
      Vf (Vm X.prog X.w) X.A (Udv X.env name (.ref f')) (fun _ s''=>SP X pins D .next s'') X.xe s2:=fun f' H2 s2 I2 l2 h2=>by
     refine Zi4 I2 hN hi (.inl hl) (v:=.ref f') rfl (fun s' I3 _=>⟨_,H2,I3,q _ H2 (ι++[f']) (l1.trans l2) h2 ?_⟩) (.inr hl)
     refine(ss.mono (l1.trans l2)).set (Za1.mpr ⟨f',rfl,?_⟩) i
     rw[<- hh.len,Xu (Xd _)]
     simp
    refine nestDef_K hd0 hk0 ha ?_
    rw[hq]
    cases b with
    | true =>
     obtain⟨c',t7,t8⟩:=t6 rfl
     refine makeFunction_hit hcl I1.ok.glob GG hcode CC gP t4 t7 BB fun ctv doc h' tk hk hsz=>?_
     have kk:∀ b o,s.heap.get? b=some o->(h'.push (fnMade name (Ua n' ++ ".<locals>." ++ name) params body scope [(x,cx)] doc ((X.mg "__name__").getD .none) c' ctv)).get? b=some o:=fun b o e=>Xa _ (hk b o e)
     have gf:(h'.push (fnMade name (Ua n' ++ ".<locals>." ++ name) params body scope [(x,cx)] doc ((X.mg "__name__").getD .none) c' ctv)).get? h'.objs.size=some _:=Xf _ rfl
     have I2:=I1.laid (o:=fzO h'.objs.size (fnMade name (Ua n' ++ ".<locals>." ++ name) params body scope [(x,cx)] doc ((X.mg "__name__").getD .none) c' ctv)) (t':=tk) kk hsz ⟨gf,gf,⟨_,gf⟩,fun h1 h2 a k=>k _ a⟩
     have hf:H1 h'.objs.size=none:=I1.hok.fresh hsz
     have lf:=Le.fresh1 (K:=X.K) (ι:=ι) hf (fzO h'.objs.size (fnMade name (Ua n' ++ ".<locals>." ++ name) params body scope [(x,cx)] doc ((X.mg "__name__").getD .none) c' ctv))
     refine fin _ _ _ I2 lf ?_
     have eset:Hd.set t (.tab n' true)=Hd:=by
      apply Wfi
      intro k
      rw[Wdg]
      split
      ·rename_i z
       subst z
       rw[hb,if_pos (Xc.mp hb).1]
      ·rfl
     rw[eset]
     refine hh1.new hf ⟨v,⟨_,name,_,doc,_,ctv,cx,c',oc,uc,u,t1,Zas,t8.step lf.toLw,?_,cu,ru⟩,rv1.mono lf⟩
     exact lf.fr _ _ _ e1
    | false =>
     refine makeFunction_K hcl I1.ok.glob GG hcode CC gP t4 (t5 rfl) ?_ BB fun c' ctv doc h' tk hx hge hlt hrec htb=>?_
     ·intro z
      obtain⟨o,es,ep,e,hd,_⟩:=GG
      rw[z,gP] at e; cases e; cases hd
     obtain⟨c3,o3,vs3,tt,e3,ho3,hd3,hv3⟩:=hrec
     cases e3
     have nP:∀ b o,H1 b=some o->(∀ ps',o≠.tbl ps')->b≠P:=fun b o h1 h2 z=>by
      subst z; rw[t3] at h1; cases h1; exact h2 _ rfl
     have nP0:∀ b,H1 b=none->b≠P:=fun b h1 z=>by subst z; rw[t3] at h1; cases h1
     have hPs:P<s.heap.objs.size:=Xe gP
     have fc:H1 c'=none:=I1.hok.fresh hge
     have hsf:s.heap.objs.size<=h'.objs.size:=Wds (Nat.lt_of_le_of_lt hge hlt)
     have ff:H1 h'.objs.size=none:=I1.hok.fresh hsf
     have ncP:P≠c':=Xi (Xk hPs hge)
     have nfP:P≠h'.objs.size:=Xi (Xk hPs hsf)
     have ncf:c'≠h'.objs.size:=Xi hlt
     generalize hfo:fnMade name (Ua n' ++ ".<locals>." ++ name) params body scope [(x,cx)] doc ((X.mg "__name__").getD .none) c' ctv=fo
     have gf:(h'.push fo).get? h'.objs.size=some fo:=Xf _ (by rw[<- hfo]; rfl)
     have gc:(h'.push fo).get? c'=some o3:=Xa _ ho3
     have gt:(h'.push fo).get? P=some (tabObj (ps ++ #[Uag pos.line,Uag pos.col,.ref c'])):=Xa _ htb
     have kk:∀ b o,b≠P->s.heap.get? b=some o->(h'.push fo).get? b=some o:=fun b o hb e=>Xa _ (hx b o hb e)
     have old:∀ b u1 u2 u3,b<s.heap.objs.size->b≠P->upd (upd (upd H1 c' u1) P u2) h'.objs.size u3 b=H1 b:=fun b u1 u2 u3 h1 h2=>by
      rw[Zah (Xi (Xk h1 hsf)),Zah h2,Zah (Xi (Xk h1 hge))]
     have I2:Inv X pins σ (upd (upd (upd H1 c' (fzO c' o3)) P (.tbl (ps ++ #[Uag pos.line,Uag pos.col,.ref c']))) h'.objs.size (fzO h'.objs.size fo)) { s with heap:=h'.push fo,toks:=tk }:=by
      refine I1.step (g':=s.gens) (d':=s.drawn) (ch:=[]) (fun _ z=>nomatch z) (fun b o _ _ _ e n=>kk b o (nP0 b n) e) (fun b o _ _ _ e n=>⟨o.slots,kk b o (nP0 b n) e⟩) (fun b o _ e n=>?_) (fun b o _ e=>?_) (fun b xs e=>?_) (fun b o u e=>?_) (fun b ps' e=>?_) (fun m hn=>?_) (fun b o e=>?_) I1.bare
      ·rw[old b _ _ _ (Xe e) (nP0 b n)]; exact n
      ·by_cases hbP:b=P
       ·subst hbP; exact⟨_,gt⟩
       ·exact⟨o,kk b o hbP e⟩
      ·rw[old b _ _ _ (I1.hok.lt e) (nP b _ e (by simp))]; exact e
      ·rw[old b _ _ _ (I1.hok.lt e) (nP b _ e (by simp))]; exact e
      ·by_cases hbP:b=P
       ·subst hbP
        rw[t3] at e
        cases e
        exact⟨_,by rw[Zah nfP,Zas]⟩
       ·exact⟨#[],by rw[old b _ _ _ (I1.hok.lt e) hbP,e]; simp⟩
      ·exact(hn.extBut hx (nP0 _ I1.free)).push _
      ·by_cases hbf:b=h'.objs.size
       ·subst hbf; rw[Zas] at e; cases e; exact⟨gf,gf,⟨_,gf⟩,fun h1 h2 a k=>k _ a⟩
       ·rw[Zah hbf] at e
        by_cases hbP:b=P
        ·subst hbP; rw[Zas] at e; cases e; exact gt
        ·rw[Zah hbP] at e
         by_cases hbc:b=c'
         ·subst hbc; rw[Zas] at e; cases e; exact⟨gc,gc,⟨_,gc⟩,fun h1 h2 a k=>k _ a⟩
         ·rw[Zah hbc] at e
          refine(I1.hok b o e).stay (fun c v hc q=>?_) (fun c q=>?_) (fun c xs q=>?_)
          ·refine kk c v ?_ q
           rcases hc with rfl | hc
           ·exact hbP
           ·exact nP c _ hc (by simp)
          ·rw[old c _ _ _ (I1.hok.lt q) (nP c _ q (by simp))]; exact q
          ·rw[old c _ _ _ (I1.hok.lt q) (nP c _ q (by simp))]; exact q
     have mP:P∈ι:=Xz ha1
     have la:=Le.fresh (K:=X.K) (ι:=ι) fc (fzO c' o3)
     have tP:upd H1 c' (fzO c' o3) P=some (.tbl ps):=by rw[Zah ncP]; exact t3
     have lb:=Le.upd (K:=X.K) mP tP trivial (.tbl (ps ++ #[Uag pos.line,Uag pos.col,.ref c']))
     have fb:upd (upd H1 c' (fzO c' o3)) P (.tbl (ps ++ #[Uag pos.line,Uag pos.col,.ref c'])) h'.objs.size=none:=by
      rw[Zah (Uo nfP),Zah (Uo ncf)]; exact ff
     have lc:=Le.fresh1 (K:=X.K) (ι:=ι) fb (fzO h'.objs.size fo)
     have cod:Zrl (upd (upd H1 c' (fzO c' o3)) P (.tbl (ps ++ #[Uag pos.line,Uag pos.col,.ref c']))) c' (Ua n' ++ ".<locals>." ++ name):=⟨o3,vs3,tt,by rw[Zah (Uo ncP),Zas],hd3,hv3⟩
     refine fin _ _ _ I2 ((la.trans lb).trans lc) ?_
     have hb2:=(hh1.tup fc (fzO c' o3)).upd (u:=.tbl (ps ++ #[Uag pos.line,Uag pos.col,.ref c'])) (ob:=.tab n' true) ha1 tP trivial
      ⟨_,c,_,t1,ht,Zas,by rw[Wey]; exact TriplesOk_snoc _ _ _ _ t4,(fun z=>by cases z),fun _=>⟨c',by rw[Wey]; exact codeAmong_snoc _ t4 (t5 rfl),cod⟩⟩
     have hlen:(Hd.set t (.tab n' true)).length=Hd.length:=by simp
     refine hb2.new fb ⟨v,⟨_,name,_,doc,(X.mg "__name__").getD .none,ctv,cx,c',oc,uc,u,t1,?_,cod.step lc.toLw,?_,cu,ru⟩,(rv1.mono (la.trans lb)).mono lc⟩
     ·rw[Zas,<- hfo]; rfl
     ·exact lc.fr _ _ _ (lb.fr _ _ _ (la.fr _ _ _ e1))
   ·cases e
  ·cases e
 ·cases e
end
structure Tabs (K:Xb) (names:List String) (tabs:List (Ve×Ve)):Prop where
 len:tabs.length=names.length
 nd:(tabs.map (·.2)).Nodup
 at':∀ (i:Nat) (n:String) (q:Ve×Ve),names[i]? = some n->tabs[i]? = some q->Uec K (Ua n)=some q/\∃ st,Zi1 K n st
 no:noTabs K=true
nonrec def Zfj (names:List String):HD:=names.map fun n=>DO.tab n false
theorem Zv9 {K:Xb} {H:Hp} {names:List String} {tabs:List (Ve×Ve)} (T:Tabs K names tabs) (h:∀ q∈tabs,H q.2=some (.tbl #[])):HRep K H (tabs.map (·.2)) (Zfj names):=by
 refine⟨by simp[Zfj,T.len],T.nd,fun i a o h1 h2=>?_⟩
 rw[Xr] at h1
 unfold Zfj at h2
 rw[Xr] at h2
 cases e1:tabs[i]? with
 | none=>rw[e1] at h1; cases h1
 | some q =>
  cases e2:names[i]? with
  | none=>rw[e2] at h2; cases h2
  | some n =>
   rw[e1] at h1
   rw[e2] at h2
   cases h1
   cases h2
   obtain⟨h3,st,h4⟩:=T.at' i n q e2 e1
   exact⟨st,q.1,#[],h4,h3,h q (Xz e1),trivial,fun _=>rfl,fun z=>by cases z⟩
def Yai (tabs:List (Ve×Ve)) (H:Hp):Prop:=(∀ q∈tabs,H q.2=some (.tbl #[]))/\∀ b,H b=none\/(∃ o xs,H b=some (.frz o (.lst xs)))\/∃ q∈tabs,b=q.2
theorem Ztq {P:Vi} {w:Vu} {K:Xb} {mg mb:Str->Option Vb} {k:Nat} {fa a:Ve} {fd:Uaq} {x:Str} {sp:Sp} {s₁:Vd} {vs:List Vb} {ns:List Int} {tabs:List (Ve×Ve)}
  (KX:K.In s₁.heap) (hns:s₁.heap.Ns Vl mg) (hb:s₁.heap.Ns builtinsNs mb) (hbb:∀ x:Str,x ≠ "__name__" -> mb x=Vp x) (hlim:s₁.heap.NoLimit) (hg:s₁.gens = #[])
  (ha:s₁.heap.get? a=some { cls:=.type "list",data:=.seq vs.toArray }) (hi:Uax vs ns) (hl:ns.length<=sizeLine) (hr:Room k Udp)
  (hT:TabsAt tabs s₁.heap) (hno:noTabs K=true) (hB:∀ q∈tabs,s₁.heap.BuiltinsAt mg q.2)
  (F:∀ base:Uaa,K.In base->base.Ns Vl mg->(∀ q∈tabs,CodeHd base q.1 q.2/\base.BuiltinsAt mg q.2)->FnOk P w K mg base CX0 k fa fd [x] sp) (hbind:∀ (s:Vd) (u:Vb),BindsTo s fd ⟨[u],[]⟩ [(x,u)])
  (hsp:∀ H:Hp,Yai tabs H->SqL K H a (ns.map V.int)->sp [.ref a] H (fun v _=>v=.bl true) fun _ _ _=>False) :
  Ucl (Vm P w) Udp (.call (.ref fa) ⟨[.ref a],[]⟩) (fun r s'=>r=.ok (.ret (.bool true))/\OldK s₁.heap s'.heap/\s'.os=s₁.os/\Uch s'.gens) s₁:=by
 have rv:=L2.vals_ints hi
 have lenV:=hi.length
 have core:∀ H:Hp,Yai tabs H->SqL K H a (ns.map V.int)->HOk P w H s₁.heap->(∀ b,H b≠none->b=a\/∃ q∈tabs,b=q.2)->(H a≠none->K.lookup a=none) ->
   Ucl (Vm P w) Udp (.call (.ref fa) ⟨[.ref a],[]⟩) (fun r s'=>r=.ok (.ret (.bool true))/\OldK s₁.heap s'.heap/\s'.os=s₁.os/\Uch s'.gens) s₁:=by
  intro H hO hS hok hA hK
  have base_of:∀ {b:Ve} {o:Obj},s₁.heap.get? b=some o->H b=none->(Zu0 s₁.heap H).get? b=some o:=fun e n=>Zxy e n
  have noH:∀ {b:Ve} {o:Obj},s₁.heap.get? b=some o->(∀ i m,o.data≠.seq i m)->(o.cls=.none->∀ fs,o.data≠.fields fs)->H b=none:=fun {b o} e d1 d2=>by
   cases q:H b with
   | none=>rfl
   | some u =>
    rcases hA b (by rw[q]; simp) with e' | ⟨t,ht,e'⟩
    ·subst e'
     rw[ha] at e; cases e
     exact absurd rfl (d1 _ _)
    ·subst e'
     rw[(hT t ht).2] at e; cases e
     exact absurd rfl (d2 rfl _)
  have nsK:∀ {b:Ve} {m:Str->Option Vb},s₁.heap.Ns b m->(Zu0 s₁.heap H).Ns b m:=fun {b m} ⟨o,es,ep,e,d,r⟩=>⟨o,es,ep,base_of e (noH e (fun i m z=>by rw[d] at z; cases z) (fun _ fs z=>by rw[d] at z; cases z)),d,r⟩
  have hKb:K.In (Zu0 s₁.heap H):=fun b o e=>base_of (KX b o e) (by
   cases q:H b with
   | none=>rfl
   | some u =>
    rcases hA b (by rw[q]; simp) with e' | ⟨t,ht,e'⟩
    ·subst e'
     rw[hK (by rw[q]; simp)] at e; cases e
    ·subst e'
     have e3:=KX _ _ e
     rw[(hT t ht).2] at e3
     cases e3
     have h2:=Xs.mp hno _ (mem_of_lookupK e)
     exact absurd (show false=true from h2) Wbl)
  have hM:Mod K mg (Zu0 s₁.heap H):=⟨hKb,nsK hns,⟨mb,nsK hb,hbb⟩,let ⟨mc,h1,h2⟩:=hlim; ⟨mc,nsK h1,h2⟩⟩
  have hC:∀ q∈tabs,CodeHd (Zu0 s₁.heap H) q.1 q.2/\(Zu0 s₁.heap H).BuiltinsAt mg q.2:=fun q hq=>by
   refine⟨?_,?_⟩
   ·obtain⟨o,vs,file,tf,flags,tg,inF,text,tt,e,c1,c2,r⟩:=(hT q hq).1
    refine⟨o,vs,file,tf,flags,tg,inF,text,tt,base_of e (noH e (fun i m z=>by rw[c2] at z; cases z) (fun z=>by rw[c1] at z; cases z)),c1,c2,r⟩
   ·obtain⟨bm,ob,b1,b2,b3,b4,b5,b6,b7,b8⟩:=hB q hq
    exact⟨bm,ob,b1,b2,b3,b4,base_of b5 (noH b5 (fun i m z=>by rw[b8] at z; cases z) (fun z=>by rw[b6] at z; cases z)),b6,b7,b8⟩
  have e0:Env0 P w K mg (Zu0 s₁.heap H) Udp [] s₁ H:=⟨rfl,hM,fun b o e=>Yax e,Nat.le_of_eq (Zso _ _),trivial,fun b hb=>absurd (show b∈([]:List Ve) from hb) (by simp),hok,.of_eq hg⟩
  refine Ubq ((F _ hKb (nsK hns) hC).run Udp [] s₁ H ⟨[.ref a],[]⟩ [.ref a] [.ref a] _ _ hr e0 (hbind s₁ (.ref a)) (.cons rfl .nil) (hsp H hO hS)) fun r s' h=>?_
  cases r with
  | error e=>exact(show False from h).elim
  | ok fl =>
   cases fl with
   | next=>exact Uj h
   | brk=>exact Uj h
   | cont=>exact Uj h
   | ret u =>
    obtain⟨v,H',os,bare,un,hok',r',q⟩:=h
    have q':v=.bl true:=q
    subst q'
    obtain rfl:u=Tbw true:=r'
    have all:∀ b o,s₁.heap.get? b=some o->s'.heap.get? b=some o\/∃ t∈tabs,b=t.2/\o=tabObj #[]/\∃ ps,s'.heap.get? b=some (tabObj ps):=fun b o e=>by
     cases q:H b with
     | none=>exact .inl (un.keep b o e q (by intro z; exact absurd (show b∈([]:List Ve) from z) (by simp)) (by simp))
     | some u =>
      rcases hO.2 b with z | ⟨ob,xs,z⟩ | ⟨t,ht,z⟩
      ·rw[q] at z; cases z
      ·have z2:=un.frzs b ob _ z
       obtain⟨e1,_⟩:=hok b _ z
       obtain⟨e2,_⟩:=hok' b _ z2
       rw[e] at e1; cases e1
       exact .inl e2
      ·subst z
       obtain⟨m,e1⟩:=un.tbls _ _ (hO.1 t ht)
       rw[(hT t ht).2] at e
       exact .inr ⟨t,ht,rfl,(Wac.inj e).symm,_,hok' _ _ e1⟩
    refine⟨rfl,⟨fun b o e=>?_,fun b o e=>?_⟩,os,bare⟩
    ·rcases all b o e with z | ⟨t,ht,rfl,rfl,ps,z⟩
     ·exact .inl z
     ·exact .inr (.inl ⟨((hT t ht).1.tab (hT t ht).2).isCodeTable,rfl,#[],ps,rfl,by rw[Wfd]; exact z⟩)
    ·rcases all b o e with z | ⟨t,ht,_,_,ps,z⟩
     ·exact⟨_,z⟩
     ·exact⟨_,z⟩
 have naT:∀ q∈tabs,q.2≠a:=fun q hq z=>by
  have e:=(hT q hq).2
  rw[z,ha] at e; cases e
 have tabOk:∀ (H:Hp) (q:Ve×Ve),q∈tabs->Zde P w H s₁.heap q.2 (.tbl #[]):=fun H q hq=>(hT q hq).2
 open Classical in
 cases hk:K.lookup a with
 | some o =>
  have e:=KX a o hk
  rw[ha] at e
  cases e
  refine core (fun b=>if ∃ q∈tabs,b=q.2 then some (.tbl #[]) else none) ⟨fun q hq=>if_pos ⟨q,hq,rfl⟩,fun b=>?_⟩ (.inr ⟨_,vs.toArray,_,hk,rfl,rfl,rfl,by rw[Xp,lenV]; exact hl,by simpa using rv⟩) (fun b u z=>?_) (fun b z=>?_) fun z=>?_
  ·by_cases hb:∃ q∈tabs,b=q.2
   ·exact .inr (.inr hb)
   ·exact .inl (if_neg hb)
  ·by_cases hb:∃ q∈tabs,b=q.2
   ·have z':=(if_pos hb).symm.trans z
    cases z'
    obtain⟨q,hq,rfl⟩:=hb
    exact tabOk _ q hq
   ·have z':=(if_neg hb).symm.trans z
    cases z'
  ·by_cases hb:∃ q∈tabs,b=q.2
   ·exact .inr hb
   ·exact absurd (if_neg hb) z
  ·have:¬ ∃ q∈tabs,a=q.2:=fun⟨q,hq,z⟩=>naT q hq z.symm
   exact absurd (if_neg this) z
 | none =>
  refine core (fun b=>if b=a then some (.frz { cls:=.type "list",data:=.seq vs.toArray } (.lst (ns.map V.int))) else if ∃ q∈tabs,b=q.2 then some (.tbl #[]) else none) ⟨fun q hq=>?_,fun b=>?_⟩ (.inl (.inr ⟨{ cls:=.type "list",data:=.seq vs.toArray },if_pos rfl⟩)) (fun b u z=>?_) (fun b z=>?_) fun _=>hk
  ·exact(if_neg (naT q hq)).trans (if_pos ⟨q,hq,rfl⟩)
  ·by_cases hb:b=a
   ·exact .inr (.inl ⟨_,_,if_pos hb⟩)
   ·by_cases hb2:∃ q∈tabs,b=q.2
    ·exact .inr (.inr hb2)
    ·exact .inl ((if_neg hb).trans (if_neg hb2))
  ·by_cases hb:b=a
   ·have z':=(if_pos hb).symm.trans z
    cases z'
    subst hb
    exact⟨ha,by rw[Xo]; exact hl,vs,_,rv,ha⟩
   ·by_cases hb2:∃ q∈tabs,b=q.2
    ·have z':=((if_neg hb).trans (if_pos hb2)).symm.trans z
     cases z'
     obtain⟨q,hq,rfl⟩:=hb2
     exact tabOk _ q hq
    ·have z':=((if_neg hb).trans (if_neg hb2)).symm.trans z
     cases z'
  ·by_cases hb:b=a
   ·exact .inl hb
   ·by_cases hb2:∃ q∈tabs,b=q.2
    ·exact .inr hb2
    ·exact absurd ((if_neg hb).trans (if_neg hb2)) z
theorem Zsk {F:FF} {names:List String} (h:∀ ns:List Int,ns.length<=63->∃ Hd',F [.fl (ns.map .int)] (Zfj names)=some (.bl true,Hd')) {K:Xb} {tabs:List (Ve×Ve)} (T:Tabs K names tabs) :
  ∀ (H:Hp) (a:Ve) (ns:List Int),ns.length<=63->Yai tabs H->SqL K H a (ns.map V.int)->Yek F K [.ref a] H (fun v _=>v=.bl true) fun _ _ _=>False:=by
 intro H a ns hl hO hS
 obtain⟨Hd',e⟩:=h ns hl
 have fz:FzL K H a (ns.map V.int):=by
  rcases hS with (h | h) | h
  ·rcases hO.2 a with z | ⟨o,xs,z⟩ | ⟨q,hq,z⟩
   ·rw[h] at z; cases z
   ·rw[h] at z; cases z
   ·subst z; rw[hO.1 q hq] at h; cases h
  ·exact .inl h
  ·exact .inr h
 have P:Vj (Rep K H (tabs.map (·.2))) (ns.map D.int) (ns.map V.int):=by
  generalize ns=ks
  induction ks with
  | nil=>exact .nil
  | cons k ks ih=>exact .cons (by simp) ih
 exact⟨tabs.map (·.2),[.fl (ns.map .int)],Zfj names,.bl true,Hd',rfl,Zv9 T hO.1,.cons (Zhc.mpr ⟨a,_,rfl,fz,P⟩) .nil,e,fun v H' ι' l h r=>by simpa using r⟩
def Zvi (K:Xb) (mg:Str->Option Vb) (base:Uaa) (n:String):Prop:=∃ c P,Uec K (Ua n)=some (c,P)/\CodeHd base c P/\base.BuiltinsAt mg P
theorem Zxn {l:Tcn} {k:Nat} {q:Vi} {loose:List Str} {XP:(Str->Option Vb)->Uaa->Prop} {YP:Vu->Uaa->Prop} {d:DefRec} {K:Params->Xb} {G:FF} {x:Str} {names:List String}
  (hn:l.most=some 63) (hdf:d.params.defaults=[]) (hr:Room k Udp)
  (hY:∀ (w:Vu) (h:Uaa),YP w h->(K w.params).In h) (hrec:∀ n∈names,((recsOf q).find? (fun e=>e.name==Ua n)).isSome=true)
  (hTb:∀ (w:Vu) (mg:Str->Option Vb) (h:Uaa),(K w.params).In h->h.Ns Vl mg->∃ tabs,Tabs (K w.params) names tabs)
  (F:∀ (w:Vu) (mg:Str->Option Vb) (fa:Ve) (h:Uaa),(K w.params).In h->h.Ns Vl mg->mg d.name=some (.ref fa) ->
   ∃ fd:Uaq,(∀ (s:Vd) (u:Vb),BindsTo s fd ⟨[u],[]⟩ [(x,u)]) /\
    ∀ base:Uaa,(K w.params).In base->base.Ns Vl mg->(∀ n∈names,Zvi (K w.params) mg base n)->FnOk l.prog w (K w.params) mg base CX0 k fa fd [x] (Yek G (K w.params)))
  (hG:∀ ns:List Int,ns.length<=63->∃ Hd',G [.fl (ns.map .int)] (Zfj names)=some (.bl true,Hd')) :
  Wgd q loose XP YP l.row.toRowW d [] (fun f vs=>Tct f vs):=by
 refine Att.attach_call hn hdf fun w s₀ s₁ mg mb fa o pm cd doc a vs ns G' Y ho hd hcd hmg hobj hints hlen hg=>?_
 have KX:=hY w _ Y
 obtain⟨tabs,T⟩:=hTb w mg _ KX G'.T.g
 obtain⟨fd,hb,hF⟩:=F w mg fa _ KX G'.T.g hmg
 have name_of:∀ t∈tabs,∃ n∈names,Uec (K w.params) (Ua n)=some t:=fun t ht=>by
  obtain⟨i,hi⟩:=Wbw.mp ht
  have hl:i<names.length:=by rw[<- T.len]; exact(Xc.mp hi).1
  exact⟨names[i],Xy hl,(T.at' i _ t (Xg hl) hi).1⟩
 have tab_of':∀ n∈names,∃ t∈tabs,Uec (K w.params) (Ua n)=some t:=fun n hn=>by
  obtain⟨i,hi⟩:=Wbw.mp hn
  have hl:i<tabs.length:=by rw[T.len]; exact(Xc.mp hi).1
  exact⟨tabs[i],Xy hl,(T.at' i n _ hi (Xg hl)).1⟩
 have hT:TabsAt tabs s₁.heap:=fun t ht=>by
  obtain⟨n,hn,e⟩:=name_of t ht
  obtain⟨dr,hdr⟩:=Wan.mp (hrec n hn)
  exact tab_of G'.T KX hdr e
 have hB:∀ t∈tabs,s₁.heap.BuiltinsAt mg t.2:=fun t ht=>by
  obtain⟨bm,ob,b1,b2,b3,b4,b5,b6⟩:=G'.T.bmain
  refine⟨bm,ob,b1,b2,fun z=>?_,fun z=>?_,b3,b4,b5,b6⟩
  ·obtain⟨o,es,ep,e,hd,_⟩:=G'.T.g
   rw[z,e] at b3; cases b3; rw[hd] at b6; cases b6
  ·rw[z,(hT t ht).2] at b3; cases b3; cases b4
 exact Ztq KX G'.T.g G'.T.b G'.T.builtins G'.T.nolimit hg hobj hints (Wag hlen (by decide)) hr hT T.no hB
  (fun base h1 h2 h3=>hF base h1 h2 fun n hn=>by
   obtain⟨t,ht,e⟩:=tab_of' n hn
   exact⟨t.1,t.2,e,h3 t ht⟩) hb (fun H hO hS=>Zsk hG T H a ns hlen hO hS)
theorem us6 {us:List Vb} (h:us.length=6):∃ a b c d e f,us=[a,b,c,d,e,f]:=by
 obtain⟨a,t,rfl⟩:=Wal h
 obtain⟨b,c,d,e,f,rfl⟩:=us5 (us:=t) (by simpa using h)
 exact⟨a,b,c,d,e,f,rfl⟩
def Tn (K:Xb) (mg:Str->Option Vb) (n:String) (st:Uab):Prop :=
 ∃ f fd c P,Fun K (Ua n) (Ua n) st f fd/\mg (Ua n)=some (.ref f)/\nsIn K Vl (Ua n)=some (some (.ref f))/\Uec K (Ua n)=some (c,P)
theorem Ydq {K:Xb} {n:Str} {f c P:Ve} {oc oc2:Vb} {od od2:Option Ve} {fd:Uaq} {sl sl2:Array (Option Vb)} {vs:Array Vb} (a:nsIn K Vl n=some (some (.ref f))) (l:K.lookup f=some ⟨oc,od,.func fd,sl⟩) (e:fd.code=.ref c)
  (m:K.lookup c=some ⟨oc2,od2,.fields vs,sl2⟩) (v:vs[11]? = some (.ref P)):Uec K n=some (c,P):=by
 unfold Uec
 rw[a]
 simp only[l,e,m,v]
theorem tn_mk {K:Xb} {h:Uaa} {mg:Str->Option Vb} {n:String} {st:Uab} {f c P:Ve} {oc oc2:Vb} {od od2 an:Option Ve} {osl sl2:Array (Option Vb)} {kV doc pm ct:Vb} {vs:Array Vb} (X:K.In h) (G:h.Ns Vl mg)
  (a:nsIn K Vl (Ua n)=some (some (.ref f))) (l:K.lookup f=some ⟨oc,od,.func (Wbi (Ua n) (Ua n) (Zcu st) (Za8 st) (Zad st) .none kV doc pm an (.ref c) ct),osl⟩)
  (cc:Wcs K (.ref c) (Ua n)=true) (k:Wcg K (.ref f)=true) (m:K.lookup c=some ⟨oc2,od2,.fields vs,sl2⟩) (v:vs[11]? = some (.ref P)):Tn K mg n st:=⟨f,_,c,P,Zyt l cc k,Wfc X G a,a,Ydq a l rfl m v⟩
section
variable {P:Vi} {w:Vu} {K:Xb} {mg:Str->Option Vb} {base:Uaa} {n:String} {st:Uab}
theorem Tn.first (T:Tn K mg n st) {s2:Uab} {r:List Uab} (h:Za8 st=s2::r):∀ st',Zi1 K n st'->st'=s2:=by
 rintro st' ⟨f0,o0,fd0,rest,h1,h2,h3,h4⟩
 obtain⟨f,fd,c,T',F,m,a,t⟩:=T
 obtain⟨oc,od,kV,doc,pm,an,cdv,ct,osl,rfl,lk,hcd⟩:=F.ex
 rw[a] at h1
 cases h1
 rw[lk] at h2
 cases h2
 cases h3
 have h5:Tcs (Za8 st)=.stmts (st'::rest):=h4
 injection h5 with h6
 rw[h] at h6
 exact(Wbe.inj h6).1.symm
theorem Tn.nest (T:Tn K mg n st) {s2:Uab} {r:List Uab} (h:Za8 st=s2::r):∃ st',Zi1 K n st':=by
 obtain⟨f,fd,c,T',F,m,a,t⟩:=T
 obtain⟨oc,od,kV,doc,pm,an,cdv,ct,osl,rfl,lk,hcd⟩:=F.ex
 exact⟨s2,f,_,_,r,a,lk,rfl,by show Tcs (Za8 st)=_; rw[h]⟩
theorem Yc7 {N ps:List Str} {k:Nat} {b:SF} (T:Tn K mg n st) (B:Zvi K mg base n) (S:FnScope N ps (Zad st))
  (hbd:∀ (kV doc pm:Vb) (an:Option Ve) (cdv ct:Vb) (us:List Vb),us.length=ps.length->Ucs (Wbi (Ua n) (Ua n) (Zcu st) (Za8 st) (Zad st) .none kV doc pm an cdv ct) ⟨us,[]⟩=pure (ps.zip us))
  (hb:∀ (f c T:Ve) (A:Vt) (outer:List Env) (s:Vd) (H:Hp) (E:XK),Uec K (Ua n)=some (c,T)->CodeHd base c T->base.BuiltinsAt mg T->Room k (A.deeper (Uba (Ua n) (Zad st) s.heap.objs.size f (.ref c))) ->
   (∀ y z,(Uba (Ua n) (Zad st) s.heap.objs.size f (.ref c)).cells.lookup y=some z->s.heap.objs.size<=z) ->
   Zp0 (Zmk CX0 P w K mg base N (Ua n) (Zad st) f (.ref c) A outer s H E).nox.nofn (Za8 st) b):Fn P w K mg base (k+1) (Ua n) ps (Za4 ps.length N.length b):=by
 obtain⟨f,fd,c,T',F,m,a,t⟩:=T
 obtain⟨c2,P2,t2,C,BB⟩:=B
 rw[t] at t2
 cases t2
 refine⟨f,fd,fn_fN F S a t fun A outer s H E hr hnew=>hb f c T' A outer s H E t C BB hr hnew,F.binds hbd,F.kp,m,?_⟩
 obtain⟨oc,od,kV,doc,pm,an,cdv,ct,osl,rfl,lk,hcd⟩:=F.ex
 exact⟨oc,od,osl,lk⟩
end
theorem Zwp {K:Xb} {mg:Str->Option Vb} {n:String} {st s2:Uab} {r:List Uab} (T:Tn K mg n st) (hb:Za8 st=s2::r) (hn:noTabs K=true):∃ tabs,Tabs K [n] tabs:=by
 obtain⟨f,fd,c,P,F,m,a,h⟩:=id T
 exact⟨[(c,P)],rfl,by simp,fun i n' q h1 h2=>by
  cases i with
  | zero=>simp at h1 h2; subst h1 h2; exact⟨h,T.nest hb⟩
  | succ i=>simp at h1,hn⟩
end DL
namespace DL
open PySem L2
theorem Zfm {n:Nat} (h:n<=1000000):n<=sizeLine:=by rw[Uz]; omega
theorem Zgw {xs:List D} {i:Int} {d:D} (h0:0<=i) (h:xs[i.toNat]? = some d):atI xs i=some d:=by
 have:i=(i.toNat:Int):=by omega
 rw[this]; exact Zcj h
end DL
namespace LH
open PySem L2 DL
structure ExtS (S:List Nat) (H H':HD):Prop where
 old:∀ m o,m∉S->H[m]? = some o->H'[m]? = some o
 len:H.length<=H'.length
theorem ExtS.trans {S:List Nat} {H H1 H2:HD} (a:ExtS S H H1) (b:ExtS S H1 H2):ExtS S H H2:=⟨fun m o h q=>b.old m o h (a.old m o h q),Wag a.len b.len⟩
theorem ExtS.refl {S:List Nat} {H:HD}:ExtS S H H:=⟨fun _ _ _ q=>q,Xd _⟩
nonrec def Zan (l:Int):Int:=if l<0 then -l else l
nonrec def Up (m:Int):Int->List Int->Prop
 | _,[]=>True
 | last,l::r=>last<Zan l/\Zan l<=m/\Up m (Zan l) r
theorem Yen {m:Int}:∀ (ls:List Int) (last:Int),(ls.map Zan).Pairwise (· < ·)->(∀ x∈ls.map Zan,last<x/\x<=m)->Up m last ls
 | [],_,_,_=>trivial
 | l::r,last,p,h=>by
  rw[Xl,Wdu] at p
  have h1:=h (Zan l) (by simp)
  exact⟨h1.1,h1.2,Yen r (Zan l) p.2 fun x hx=>⟨p.1 x hx,(h x (by rw[Xl]; exact Wao _ hx)).2⟩⟩
theorem Zd2 {f g:SF} {σ σ1:SD} {H H1:HD} (h:f σ H=some (.nx,σ1,H1)):Zaf f g σ H=g σ1 H1:=by
 unfold Zaf
 rw[h]
 rfl
theorem Zzq {i:Nat} {f:EF} {σ:SD} {H H1:HD} {d:D} (h:f σ H=some (d,H1)):Zbe i f σ H=some (.nx,σ.set i (some d),H1):=by
 unfold Zbe
 rw[h]
 rfl
def Zcc (d:D):Prop:=d=.str "all" \/ d=.str "some"
theorem Zy7 {H:HD}:Zcb [] H:=by intro x hx; simp at hx
theorem Zux (H:HD) (n:Nat) (i:Int):toP H n (.int i)=some (.int i):=by cases n<;>rw[toP]
theorem Yeg (H:HD) (n:Nat) (b:Bool):toP H n (.bl b)=some (.bool b):=by cases n<;>rw[toP]
theorem Zwi (H:HD) (i:Int):dat (.int i) H=some (.int i):=by
 simp[dat,Zux,okP,Tad,Tam]
theorem Zy5 (i j:Int) (H:HD):eqD (.int i) (.int j) H=some (.bl (i==j),H):=by
 simp[eqD,Zrm,Zwi,Ub]
theorem Ycx (i j:Int) (H:HD):neD (.int i) (.int j) H=some (.bl (!(i==j)),H):=by
 simp[neD,Zrm,Zwi,Ub]
theorem Zjq (H:HD) (n:Nat) (x:Str):toP H n (.str x)=some (.str x):=by cases n<;>rw[toP]
theorem Zf4 {x:Str} (h:(x.cps.toList.all fun c=>decide (c<0x110000))=true):Tan x=true:=by
 unfold Tan
 rw[<- Array.all_toList]
 exact h
theorem Zyz (xs:List D) (k:Nat):Zod xs (some (k:Int)) none=xs.drop k:=by
 unfold Zod
 have h1:HT.sIx xs.length 0 (some (k:Int))=min k xs.length:=by
  show (if (k:Int)<0 then ((k:Int)+(xs.length:Int)).toNat else min (k:Int).toNat xs.length)=min k xs.length
  rw[if_neg (by omega),Waf]
 have h2:HT.sIx xs.length xs.length none=xs.length:=rfl
 rw[h1,h2]
 by_cases h:k<=xs.length
 ·rw[Wfx h]
  exact Weg (by simp)
 ·rw[Nat.min_eq_right (by omega),Weh (Xd _),Weh (by omega)]
  simp
theorem Yel (xs:List D) (k:Nat):Zod xs none (some (k:Int))=xs.take k:=by
 unfold Zod
 have h1:HT.sIx xs.length 0 none=0:=rfl
 have h2:HT.sIx xs.length xs.length (some (k:Int))=min k xs.length:=by
  show (if (k:Int)<0 then ((k:Int)+(xs.length:Int)).toNat else min (k:Int).toNat xs.length)=min k xs.length
  rw[if_neg (by omega),Waf]
 rw[h1,h2]
 simp
theorem ac {f:EF} {g:AF} {σ:SD} {H H1 H2:HD} {d:D} {ds:List D} (h1:f σ H=some (d,H1)) (h2:g σ H1=some (ds,H2)):Zab f g σ H=some (d::ds,H2):=by
 unfold Zab; rw[h1]; simp only[Zb]; rw[h2]; rfl
theorem an {σ:SD} {H:HD}:Zag σ H=some ([],H):=rfl
theorem cb {g:FF} {f:AF} {σ:SD} {H H1:HD} {ds:List D} {r:Option (D×HD)} (h1:f σ H=some (ds,H1)) (h2:g ds H1=r):eCB g f σ H=r:=by
 unfold eCB; rw[h1]; exact h2
theorem tu {n:Nat} {xs:List D} {H:HD} (h:H[n]? = some (.lst xs)):Zd0 [.ref n] H=some (.tup xs,H):=by
 simp[Zd0,Zmh,h]
theorem tp {f:AF} {σ:SD} {H H1:HD} {ds:List D} (h1:f σ H=some (ds,H1)) (h2:ds.length<=1000000):Zdk f σ H=some (.tup ds,H1):=by
 unfold Zdk; rw[h1]; exact if_pos (Zfm h2)
theorem ls {f:AF} {σ:SD} {H H1:HD} {ds:List D} (h1:f σ H=some (ds,H1)) (h2:ds.length<=1000000):Zdj f σ H=some (.ref H1.length,H1++[.lst ds]):=by
 unfold Zdj; rw[h1]; exact if_pos (Zfm h2)
theorem ca {n:Nat} {F:FF} {f:AF} {σ:SD} {H H1:HD} {ds:List D} {r:Option (D×HD)} (h1:f σ H=some (ds,H1)) (hl:ds.length=n) (h2:F ds H1=r):Zap n F f σ H=r:=by
 unfold Zap; rw[h1]; simp only[Zb]; rw[if_pos hl]; exact h2
theorem rt {f:EF} {σ:SD} {H H1:HD} {d:D} (h:f σ H=some (d,H1)):Zbc f σ H=some (.rt d,σ,H1):=by
 unfold Zbc; rw[h]; rfl
theorem op {g:F2} {fa fb:EF} {σ:SD} {H H1 H2:HD} {d1 d2:D} {r:Option (D×HD)} (h1:fa σ H=some (d1,H1)) (h2:fb σ H1=some (d2,H2)) (h3:g d1 d2 H2=r):eOp g fa fb σ H=r:=by
 unfold eOp; rw[h1]; simp only[Zb]; rw[h2]; exact h3
theorem Zr0 {t:TF} {f g:SF} {σ:SD} {H H1:HD} {b:Bool} (h:t σ H=some (b,H1)):sIf t f g σ H=if b=true then f σ H1 else g σ H1:=by
 unfold sIf; rw[h]; rfl
theorem tof {f:EF} {σ:SD} {H H1:HD} {b:Bool} (h:f σ H=some (.bl b,H1)):tOf f σ H=some (b,H1):=by
 unfold tOf; rw[h]; rfl
theorem lenT (xs:List D) (H:HD):Zc7 [.tup xs] H=some (.int xs.length,H):=by simp[Zc7,Zmh]
theorem lenB (bs:List Bool) (H:HD):Zc7 [.tup (bs.map .bl)] H=some (.int bs.length,H):=by simp[Zc7,Zmh]
theorem ixT {xs:List D} {i:Int} {d:D} {H:HD} (h:atI xs i=some d):ixD (.tup xs) (.int i) H=some (d,H):=by simp[ixD,Zmh,h]
theorem vr {i:Nat} {σ:SD} {H:HD} {d:D} (h:σ[i]? = some (some d)):Zac i σ H=some (d,H):=by simp[Zac,h]
theorem sl {fe:EF} {fl fh:OF} {σ:SD} {H H1 H2 H3:HD} {d:D} {l h:Option Int} {r:Option (D×HD)} (h1:fe σ H=some (d,H1)) (h2:fl σ H1=some (l,H2)) (h3:fh σ H2=some (h,H3)) (h4:slD d l h H3=r):eSl fe fl fh σ H=r:=by
 unfold eSl; rw[h1]; simp only[Zb]; rw[h2]; simp only[Zb]; rw[h3]; exact h4
theorem os {f:EF} {σ:SD} {H H1:HD} {i:Int} (h:f σ H=some (.int i,H1)):Zfb f σ H=some (some i,H1):=by
 unfold Zfb; rw[h]; rfl
theorem on {σ:SD} {H:HD}:Zge σ H=some (none,H):=rfl
theorem slhi {xs:List D} {k:Nat} {H:HD}:slD (.tup xs) none (some (k:Int)) H=some (.tup (xs.take k),H):=by
 rw[<- Yel]; rfl
theorem sllo {xs:List D} {k:Nat} {H:HD}:slD (.tup xs) (some (k:Int)) none H=some (.tup (xs.drop k),H):=by
 rw[<- Zyz]; rfl
theorem adT {xs ys:List D} {H:HD} (h:xs.length+ys.length<=1000000):Zb6 (.tup xs) (.tup ys) H=some (.tup (xs++ys),H) :=
 if_pos (Zfm (by rw[Xq]; exact h))
theorem suI (i j:Int) (H:HD):Zlh (.int i) (.int j) H=some (.int (i - j),H):=by simp[Zlh,iiD,CT]
theorem ExtS.app {S:List Nat} {H:HD} (L:HD):ExtS S H (H++L):=⟨fun m o _ q=>by
 have:m<H.length:=(Xc.mp q).1
 rw[Xh this]; exact q,by simp⟩
nonrec def Zaz (ls:List Int):D:=.tup (ls.map .int)
theorem orF {t u:TF} {σ:SD} {H H1:HD} (h:t σ H=some (false,H1)):Zmg t u σ H=u σ H1:=by unfold Zmg; rw[h]; rfl
theorem orT {t u:TF} {σ:SD} {H H1:HD} (h:t σ H=some (true,H1)):Zmg t u σ H=some (true,H1):=by unfold Zmg; rw[h]; rfl
theorem anF {t u:TF} {σ:SD} {H H1:HD} (h:t σ H=some (false,H1)):tAn t u σ H=some (false,H1):=by unfold tAn; rw[h]; rfl
theorem anT {t u:TF} {σ:SD} {H H1:HD} (h:t σ H=some (true,H1)):tAn t u σ H=u σ H1:=by unfold tAn; rw[h]; rfl
theorem Zyu:∀ bs:List Bool,(!(bs.map Tco).any fun z=>Ub z (.bool false))=bs.all id
 | []=>rfl
 | b::r=>by
  have ih:=Zyu r
  rw[Xl,Wdb,Bool.not_or,ih,Wcn]
  cases b<;>simp[Ub]
theorem Zzg {H:HD} {p:Nat} {bs:List Bool} (h:H[p]? = some (.lst (bs.map .bl))):Zzi [.ref p] H=some (.bl (bs.all id),H):=by
 simp[Zzi,h,Zqo]
end LH
namespace WP
open PySem L2 DL LH
def wE (r:Option (D×HD)) (Q:D->HD->Prop):Prop:=∃ d H,r=some (d,H)/\Q d H
def wT (r:Option (Bool×HD)) (Q:Bool->HD->Prop):Prop:=∃ d H,r=some (d,H)/\Q d H
def wA (r:Option (List D×HD)) (Q:List D->HD->Prop):Prop:=∃ d H,r=some (d,H)/\Q d H
def wO (r:Option (Option Int×HD)) (Q:Option Int->HD->Prop):Prop:=∃ d H,r=some (d,H)/\Q d H
def wI (r:Option ((List D×Zgy)×HD)) (Q:List D->Zgy->HD->Prop):Prop:=∃ d o H,r=some ((d,o),H)/\Q d o H
def wG (r:Option (SD×HD)) (Q:SD->HD->Prop):Prop:=∃ d H,r=some (d,H)/\Q d H
def wH (r:Option HD) (Q:HD->Prop):Prop:=∃ H,r=some H/\Q H
def wS (r:Option (FD×SD×HD)) (Q:FD->SD->HD->Prop):Prop:=∃ x d H,r=some (x,d,H)/\Q x d H
def wN (n:Nat) (F:FF) (ds:List D) (H:HD) (Q:D->HD->Prop):Prop:=ds.length=n/\wE (F ds H) Q
def br (b:Bool) (P Q:Prop):Prop:=(b=true->P)/\(b=false->Q)
nonrec def Yb5 (k:SD->HD->Prop) (Q:FD->SD->HD->Prop):FD->SD->HD->Prop
 | .nx,σ,H=>k σ H
 | r,σ,H=>Q r σ H
nonrec def fin (Q:D->HD->Prop):FD->SD->HD->Prop
 | .rt d,_,H=>Q d H
 | .nx,_,H=>Q .non H
 | _,_,_=>False
section
variable {σ:SD} {H:HD} {Q:D->HD->Prop}
theorem wE_of {r:Option (D×HD)} {d:D} {H:HD} (e:r=some (d,H)) (q:Q d H):wE r Q:=⟨d,H,e,q⟩
theorem wS_of {Q:FD->SD->HD->Prop} {r:Option (FD×SD×HD)} {x:FD} {d:SD} {H:HD} (e:r=some (x,d,H)) (q:Q x d H):wS r Q:=⟨x,d,H,e,q⟩
theorem w_var {i:Nat} {d:D} (h:(σ[i]?).join=some d) (q:Q d H):wE (Zac i σ H) Q:=⟨d,H,by unfold Zac; rw[h]; rfl,q⟩
theorem w_c {d:D} (q:Q d H):wE (eC d σ H) Q:=⟨d,H,rfl,q⟩
theorem w_op {g:F2} {fa fb:EF} (h:wE (fa σ H) fun x H1=>wE (fb σ H1) fun y H2=>wE (g x y H2) Q):wE (eOp g fa fb σ H) Q:=by
 obtain⟨x,H1,e1,y,H2,e2,d,H3,e3,q⟩:=h
 exact⟨d,H3,op e1 e2 e3,q⟩
theorem w_un {g:D->HD->Option (D×HD)} {fa:EF} (h:wE (fa σ H) fun x H1=>wE (g x H1) Q):wE (eUn g fa σ H) Q:=by
 obtain⟨x,H1,e1,d,H3,e3,q⟩:=h
 exact⟨d,H3,by unfold eUn; rw[e1]; exact e3,q⟩
theorem w_ch {g g':F2} {fa fb fc:EF} (h:wE (fa σ H) fun x H1=>wE (fb σ H1) fun y H2=>wE (g x y H2) fun z H3=>∃ k,z=.bl k/\br k (wE (fc σ H3) fun w H4=>wE (g' y w H4) Q) (Q (.bl false) H3)):wE (eCh g g' fa fb fc σ H) Q:=by
 obtain⟨x,H1,e1,y,H2,e2,z,H3,e3,k,rfl,b1,b2⟩:=h
 unfold eCh
 rw[e1]; simp only[Zb]; rw[e2]; simp only[Zb]; rw[e3]; simp only[Zb,blD]
 cases k with
 | true =>
  obtain⟨w,H4,e4,d,H5,e5,q⟩:=b1 rfl
  exact⟨d,H5,by rw[if_pos rfl,e4]; exact e5,q⟩
 | false=>exact⟨.bl false,H3,by rw[if_neg (by simp)],b2 rfl⟩
theorem w_tof {f:EF} {Q:Bool->HD->Prop} (h:wE (f σ H) fun d H1=>∃ b,d=.bl b/\Q b H1):wT (tOf f σ H) Q:=by
 obtain⟨d,H1,e,b,rfl,q⟩:=h
 exact⟨b,H1,tof e,q⟩
theorem w_bl {b:Bool} {P:Bool->Prop} (h:P b):∃ c,D.bl b=.bl c/\P c:=⟨b,rfl,h⟩
theorem w_ttru {f:EF} {Q:Bool->HD->Prop} (h:wE (f σ H) fun d H1=>∃ b,Zuc d H1=some b/\Q b H1):wT (Zfd f σ H) Q:=by
 obtain⟨d,H1,e,b,e2,q⟩:=h
 exact⟨b,H1,by unfold Zfd; rw[e]; simp only[Zb]; rw[e2]; rfl,q⟩
theorem w_no {t:TF} {Q:Bool->HD->Prop} (h:wT (t σ H) fun b H1=>Q (!b) H1):wT (tNo t σ H) Q:=by
 obtain⟨b,H1,e,q⟩:=h
 exact⟨!b,H1,by unfold tNo; rw[e]; rfl,q⟩
theorem w_an {t u:TF} {Q:Bool->HD->Prop} (h:wT (t σ H) fun b H1=>br b (wT (u σ H1) Q) (Q false H1)):wT (tAn t u σ H) Q:=by
 obtain⟨b,H1,e,q1,q2⟩:=h
 cases b with
 | true=>obtain⟨c,H2,e2,q⟩:=q1 rfl; exact⟨c,H2,(anT e).trans e2,q⟩
 | false=>exact⟨false,H1,anF e,q2 rfl⟩
theorem w_or {t u:TF} {Q:Bool->HD->Prop} (h:wT (t σ H) fun b H1=>br b (Q true H1) (wT (u σ H1) Q)):wT (Zmg t u σ H) Q:=by
 obtain⟨b,H1,e,q1,q2⟩:=h
 cases b with
 | true=>exact⟨true,H1,orT e,q1 rfl⟩
 | false=>obtain⟨c,H2,e2,q⟩:=q2 rfl; exact⟨c,H2,(orF e).trans e2,q⟩
theorem w_eno {f:EF} (h:wE (f σ H) fun d H1=>∃ b,d=.bl b/\Q (.bl (!b)) H1):wE (eNo f σ H) Q:=by
 obtain⟨d,H1,e,b,rfl,q⟩:=h
 exact⟨.bl (!b),H1,by unfold eNo; rw[e]; rfl,q⟩
theorem w_ean {f g:EF} (h:wE (f σ H) fun d H1=>∃ b,d=.bl b/\br b (wE (g σ H1) Q) (Q (.bl false) H1)):wE (eAn f g σ H) Q:=by
 obtain⟨d,H1,e,b,rfl,q1,q2⟩:=h
 unfold eAn
 rw[e]; simp only[Zb,blD]
 cases b with
 | true=>rw[if_pos rfl]; exact q1 rfl
 | false=>rw[if_neg (by simp)]; exact⟨_,_,rfl,q2 rfl⟩
theorem w_eif {t:TF} {f g:EF} (h:wT (t σ H) fun b H1=>br b (wE (f σ H1) Q) (wE (g σ H1) Q)):wE (eIf t f g σ H) Q:=by
 obtain⟨b,H1,e,q1,q2⟩:=h
 unfold eIf
 rw[e]; simp only[Zb]
 cases b with
 | true=>rw[if_pos rfl]; exact q1 rfl
 | false=>rw[if_neg (by simp)]; exact q2 rfl
theorem w_anil {Q:List D->HD->Prop} (q:Q [] H):wA (Zag σ H) Q:=⟨[],H,rfl,q⟩
theorem w_acons {f:EF} {g:AF} {Q:List D->HD->Prop} (h:wE (f σ H) fun d H1=>wA (g σ H1) fun ds H2=>Q (d::ds) H2):wA (Zab f g σ H) Q:=by
 obtain⟨d,H1,e1,ds,H2,e2,q⟩:=h
 exact⟨d::ds,H2,ac e1 e2,q⟩
theorem w_cb {g:FF} {f:AF} (h:wA (f σ H) fun ds H1=>wE (g ds H1) Q):wE (eCB g f σ H) Q:=by
 obtain⟨ds,H1,e1,d,H2,e2,q⟩:=h
 exact⟨d,H2,cb e1 e2,q⟩
theorem w_call {n:Nat} {F:FF} {f:AF} (h:wA (f σ H) fun ds H1=>wN n F ds H1 Q):wE (Zap n F f σ H) Q:=by
 obtain⟨ds,H1,e1,hl,d,H2,e2,q⟩:=h
 exact⟨d,H2,ca e1 hl e2,q⟩
theorem w_n {n:Nat} {F:FF} {ds:List D} (hl:ds.length=n) (h:wE (F ds H) Q):wN n F ds H Q:=⟨hl,h⟩
theorem w_tup {f:AF} (h:wA (f σ H) fun ds H1=>ds.length<=1000000/\Q (.tup ds) H1):wE (Zdk f σ H) Q:=by
 obtain⟨ds,H1,e1,hl,q⟩:=h
 exact⟨_,H1,tp e1 hl,q⟩
theorem w_lst {f:AF} (h:wA (f σ H) fun ds H1=>ds.length<=1000000/\Q (.ref H1.length) (H1++[.lst ds])):wE (Zdj f σ H) Q:=by
 obtain⟨ds,H1,e1,hl,q⟩:=h
 exact⟨_,_,ls e1 hl,q⟩
theorem w_lm {g:D->List D->HD->Option (D×HD)} {fo:EF} {f:AF} (h:wE (fo σ H) fun o H1=>Zoz o H1=true/\wA (f σ H1) fun ds H2=>wE (g o ds H2) Q):wE (eLM g fo f σ H) Q:=by
 obtain⟨o,H1,e1,i,ds,H2,e2,d,H3,e3,q⟩:=h
 exact⟨d,H3,by unfold eLM; rw[e1]; simp only[Zb]; rw[if_pos i,e2]; exact e3,q⟩
theorem w_dn (q:Q (.ref H.length) (H++[.dic [] false])):wE (eDN σ H) Q:=⟨_,_,rfl,q⟩
theorem w_on {Q:Option Int->HD->Prop} (q:Q none H):wO (Zge σ H) Q:=⟨none,H,rfl,q⟩
theorem w_os {f:EF} {Q:Option Int->HD->Prop} (h:wE (f σ H) fun d H1=>∃ i,d=.int i/\Q (some i) H1):wO (Zfb f σ H) Q:=by
 obtain⟨d,H1,e,i,rfl,q⟩:=h
 exact⟨some i,H1,os e,q⟩
theorem w_int {i:Int} {P:Int->Prop} (h:P i):∃ c,D.int i=.int c/\P c:=⟨i,rfl,h⟩
theorem w_sl {fe:EF} {fl fh:OF} (h:wE (fe σ H) fun x H1=>wO (fl σ H1) fun l H2=>wO (fh σ H2) fun u H3=>wE (slD x l u H3) Q):wE (eSl fe fl fh σ H) Q:=by
 obtain⟨x,H1,e1,l,H2,e2,u,H3,e3,d,H4,e4,q⟩:=h
 exact⟨d,H4,sl e1 e2 e3 e4,q⟩
variable {R:FD->SD->HD->Prop}
theorem w_snil (q:R .nx σ H):wS (Zaj σ H) R:=⟨_,_,_,rfl,q⟩
theorem w_seq {f g:SF} (h:wS (f σ H) (Yb5 (fun σ1 H1=>wS (g σ1 H1) R) R)):wS (Zaf f g σ H) R:=by
 obtain⟨x,σ1,H1,e,k⟩:=h
 unfold Zaf
 rw[e]; simp only[Zb]
 cases x with
 | nx=>exact k
 | bk=>exact⟨_,_,_,rfl,k⟩
 | ct=>exact⟨_,_,_,rfl,k⟩
 | rt d=>exact⟨_,_,_,rfl,k⟩
theorem w_kn {k:SD->HD->Prop} (h:k σ H):Yb5 k R .nx σ H:=h
theorem w_kr {k:SD->HD->Prop} {d:D} (h:R (.rt d) σ H):Yb5 k R (.rt d) σ H:=h
theorem Zub {r:Option (FD×SD×HD)} {k:SD->HD->Prop} (J:SD->HD->Prop) (h:wS r fun x σ H=>x=.nx/\J σ H) (q:∀ σ H,J σ H->k σ H):wS r (Yb5 k R):=by
 obtain⟨x,s,H,e,rfl,j⟩:=h
 exact⟨_,s,H,e,q s H j⟩
theorem w_fr {d:D} (h:Q d H):fin Q (.rt d) σ H:=h
theorem w_fn (h:Q .non H):fin Q .nx σ H:=h
theorem w_ret {f:EF} (h:wE (f σ H) fun d H1=>R (.rt d) σ H1):wS (Zbc f σ H) R:=by
 obtain⟨d,H1,e,q⟩:=h; exact⟨_,_,_,rt e,q⟩
theorem w_retn (h:R (.rt .non) σ H):wS (Yav σ H) R:=⟨_,_,_,rfl,h⟩
theorem w_expr {f:EF} (h:wE (f σ H) fun d H1=>R .nx σ H1):wS (Zbw f σ H) R:=by
 obtain⟨d,H1,e,q⟩:=h; exact⟨_,_,_,by unfold Zbw; rw[e]; rfl,q⟩
theorem w_if {t:TF} {f g:SF} (h:wT (t σ H) fun b H1=>br b (wS (f σ H1) R) (wS (g σ H1) R)):wS (sIf t f g σ H) R:=by
 obtain⟨b,H1,e,q1,q2⟩:=h
 rw[Zr0 e]
 cases b with
 | true=>rw[if_pos rfl]; exact q1 rfl
 | false=>rw[if_neg (by simp)]; exact q2 rfl
theorem w_set {i:Nat} {f:EF} (h:wE (f σ H) fun d H1=>R .nx (σ.set i (some d)) H1):wS (Zbe i f σ H) R:=by
 obtain⟨d,H1,e,q⟩:=h; exact⟨_,_,_,by unfold Zbe; rw[e]; rfl,q⟩
theorem w_asg {f:EF} {g:GF} (h:wE (f σ H) fun d H1=>wG (g d σ H1) fun σ2 H2=>R .nx σ2 H2):wS (Zsl f g σ H) R:=by
 obtain⟨d,H1,e,σ2,H2,e2,q⟩:=h; exact⟨_,_,_,by unfold Zsl; rw[e]; simp only[Zb]; rw[e2]; rfl,q⟩
theorem w_gnm {i:Nat} {d:D} {Q:SD->HD->Prop} (h:Q (σ.set i (some d)) H):wG (gNm i d σ H) Q:=⟨_,_,rfl,h⟩
theorem w_gsb {fo fi:EF} {g:Zzx} {d:D} {Q:SD->HD->Prop} (h:wE (fo σ H) fun o H1=>wE (fi σ H1) fun i H2=>wH (g o i d H2) fun H3=>Q σ H3):wG (gSb fo fi g d σ H) Q:=by
 obtain⟨o,H1,e1,i,H2,e2,H3,e3,q⟩:=h
 exact⟨σ,H3,by unfold gSb; rw[e1]; simp only[Zb]; rw[e2]; simp only[Zb]; rw[e3]; rfl,q⟩
theorem w_gtp {n:Nat} {g:GFs} {ds:List D} {Q:SD->HD->Prop} (hl:ds.length=n) (h:wG (g ds σ H) Q):wG (gTp n g (.tup ds) σ H) Q:=by
 obtain⟨s,H1,e,q⟩:=h
 exact⟨s,H1,by unfold gTp; simp only[if_pos hl]; exact e,q⟩
theorem w_gnl {Q:SD->HD->Prop} (h:Q σ H):wG (gNl [] σ H) Q:=⟨_,_,rfl,h⟩
theorem w_gcn {g:GF} {h:GFs} {d:D} {r:List D} {Q:SD->HD->Prop} (q:wG (g d σ H) fun σ1 H1=>wG (h r σ1 H1) Q):wG (gCn g h (d::r) σ H) Q:=by
 obtain⟨s,H1,e,s2,H2,e2,q⟩:=q
 exact⟨s2,H2,by unfold gCn; simp only; rw[e]; exact e2,q⟩
theorem w_for {it:ItF} {g:GF} {b:SF} (h:wI (it σ H) fun xs own H1=>wS (Zif own g b xs σ H1) R):wS (Zed it g b σ H) R:=by
 obtain⟨xs,own,H1,e,q⟩:=h
 unfold Zed; rw[e]; exact q
theorem Za6 {n N:Nat} {b:SF} {ds:List D} (hl:ds.length=n) (h:wS (b (ds.map some++Xv (N - ds.length) none) H) (fin Q)):wE (Za4 n N b ds H) Q:=by
 obtain⟨x,s,H1,e,q⟩:=h
 unfold Za4
 rw[if_pos hl,e]
 simp only[Zb]
 cases x with
 | nx=>exact⟨_,_,rfl,q⟩
 | rt d=>exact⟨_,_,rfl,q⟩
 | bk=>exact q.elim
 | ct=>exact q.elim
theorem w_lc {it:ItF} {ci:List Nat} {tt:TF} {te:EF} (h:wI (it σ H) fun xs own H1=>wA (Zew own (Zuz ci σ) tt te xs H1) fun ds H2=>ds.length<=1000000/\Q (.ref H2.length) (H2++[.lst ds])):wE (eLC it ci tt te σ H) Q:=by
 obtain⟨xs,own,H1,e,ds,H2,e2,hl,q⟩:=h
 exact⟨_,_,by unfold eLC; rw[e]; simp only[Zb]; rw[e2]; exact if_pos (Zfm hl),q⟩
theorem w_bt {P S:Prop} (h:P):br true P S:=⟨fun _=>h,nofun⟩
theorem w_bf {P S:Prop} (h:S):br false P S:=⟨nofun,fun _=>h⟩
theorem w_bnt {P S:Prop} (h:P):br (!false) P S:=⟨fun _=>h,nofun⟩
theorem w_bnf {P S:Prop} (h:S):br (!true) P S:=⟨nofun,fun _=>h⟩
theorem w_bT {b:Bool} {P S:Prop} (e:b=true) (h:P):br b P S:=by subst e; exact w_bt h
theorem w_bF {b:Bool} {P S:Prop} (e:b=false) (h:S):br b P S:=by subst e; exact w_bf h
theorem w_sz {ds:List D} {P:Prop} (h:ds.length<=1000000) (q:P):ds.length<=1000000/\P:=⟨h,q⟩
theorem w_addI {i j:Int} (q:Q (.int (i+j)) H):wE (Zb6 (.int i) (.int j) H) Q:=⟨_,_,rfl,q⟩
theorem w_addT {a b:List D} (h:a.length+b.length<=1000000) (q:Q (.tup (a++b)) H):wE (Zb6 (.tup a) (.tup b) H) Q:=⟨_,_,adT h,q⟩
theorem w_subI {i j:Int} (q:Q (.int (i - j)) H):wE (Zlh (.int i) (.int j) H) Q:=⟨_,_,suI i j H,q⟩
theorem w_lt {i j:Int} (q:Q (.bl (decide (i<j))) H):wE (ltD (.int i) (.int j) H) Q:=⟨_,_,by simp[ltD,iiD,CT],q⟩
theorem w_le {i j:Int} (q:Q (.bl (decide (i<=j))) H):wE (leD (.int i) (.int j) H) Q:=⟨_,_,by simp[leD,iiD,CT],q⟩
theorem w_gt {i j:Int} (q:Q (.bl (decide (j<i))) H):wE (gtD (.int i) (.int j) H) Q:=⟨_,_,by simp[gtD,iiD,CT],q⟩
theorem w_ge {i j:Int} (q:Q (.bl (decide (j<=i))) H):wE (geD (.int i) (.int j) H) Q:=⟨_,_,by simp[geD,iiD,CT],q⟩
theorem w_mod {i j:Int} (h:0<j) (q:Q (.int (i % j)) H):wE (Zfc (.int i) (.int j) H) Q:=⟨_,_,by have c:Ycp i j:=h; simp[Zfc,iiD,c],q⟩
theorem w_fdiv {i j:Int} (h:0<j) (h2:j<1073741824) (q:Q (.int (i / j)) H):wE (Zl2 (.int i) (.int j) H) Q:=⟨_,_,by have c:Yck i j:=⟨h,h2⟩; simp[Zl2,iiD,c],q⟩
theorem w_mulL {i j:Int} (h1 : -(2 ^ 64)<i) (h2:i<2 ^ 64) (q:Q (.int (i*j)) H):wE (Zqd (.int i) (.int j) H) Q:=⟨_,_,by have c:Zzm i j:=.inl ⟨h1,h2⟩; simp[Zqd,c],q⟩
theorem w_mulR {i j:Int} (h1 : -(2 ^ 64)<j) (h2:j<2 ^ 64) (q:Q (.int (i*j)) H):wE (Zqd (.int i) (.int j) H) Q:=⟨_,_,by have c:Zzm i j:=.inr ⟨h1,h2⟩; simp[Zqd,c],q⟩
theorem Ybx {i j:Int} (h1:0<=j) (h2:j<=1000000) (h3:i.natAbs<2 ^ 64) (q:Q (.int (i ^ j.toNat)) H):wE (Yb7 (.int i) (.int j) H) Q:=⟨_,_,by have c:Yce i j:=⟨h1,h2,h3⟩; simp[Yb7,iiD,c],q⟩
theorem w_neg {i:Int} (q:Q (.int (-i)) H):wE (Zka (.int i) H) Q:=⟨_,_,rfl,q⟩
theorem w_eqI {i j:Int} (q:Q (.bl (i==j)) H):wE (eqD (.int i) (.int j) H) Q:=⟨_,_,Zy5 _ _ _,q⟩
theorem w_eqS {a b:Str} (q:Q (.bl (a==b)) H):wE (eqD (.str a) (.str b) H) Q:=⟨_,_,rfl,q⟩
theorem w_lenT {xs:List D} (q:Q (.int xs.length) H):wE (Zc7 [.tup xs] H) Q:=⟨_,_,lenT xs H,q⟩
theorem w_lenR {n:Nat} {xs:List D} (h:H[n]? = some (.lst xs)) (q:Q (.int xs.length) H):wE (Zc7 [.ref n] H) Q:=⟨_,_,by simp[Zc7,Zmh,h],q⟩
theorem w_lenF {xs:List D} (q:Q (.int xs.length) H):wE (Zc7 [.fl xs] H) Q:=⟨_,_,by simp[Zc7,Zmh],q⟩
theorem w_abs {i:Int} (q:Q (.int (Zan i)) H):wE (Zr5 [.int i] H) Q:=⟨_,_,rfl,q⟩
theorem w_ixT {xs:List D} {i:Int} {d:D} (h:atI xs i=some d) (q:Q d H):wE (ixD (.tup xs) (.int i) H) Q:=⟨_,_,ixT h,q⟩
theorem w_ixR {n:Nat} {xs:List D} {i:Int} {d:D} (g:H[n]? = some (.lst xs)) (h:atI xs i=some d) (q:Q d H):wE (ixD (.ref n) (.int i) H) Q:=⟨_,_,by simp[ixD,Zmh,g,h],q⟩
theorem w_ixF {xs:List D} {i:Int} {d:D} (h:atI xs i=some d) (q:Q d H):wE (ixD (.fl xs) (.int i) H) Q:=⟨_,_,by simp[ixD,Zmh,h],q⟩
theorem w_intB {b:Bool} (q:Q (.int (if b then 1 else 0)) H):wE (Zrh [.bl b] H) Q:=⟨_,_,rfl,q⟩
theorem w_max {i j:Int} (q:Q (.int (if j > i then j else i)) H):wE (maxD [.int i,.int j] H) Q:=⟨_,_,rfl,q⟩
theorem w_tupR {n:Nat} {xs:List D} (h:H[n]? = some (.lst xs)) (q:Q (.tup xs) H):wE (Zd0 [.ref n] H) Q:=⟨_,_,tu h,q⟩
theorem Ze3 {n:Nat} {xs:List D} {d:D} (h:H[n]? = some (.lst xs)) (hl:xs.length<1000000) (q:Q .non (H.set n (.lst (xs++[d])))):wE (Zbg (.ref n) [d] H) Q :=
 ⟨_,_,by simp[Zbg,h,Xk hl (Zfm (Xd _))],q⟩
theorem w_isi {d:D} {c t:String} (ha:Ztv c=true) (h:tyD d H=some t) (q:Q (.bl (t==c||(t == "bool" && c == "int"))) H):wE (Zoe [d,.ty c] H) Q:=⟨_,_,by simp[Zoe,ha,h],q⟩
theorem w_isN {d:D} {b:Bool} (h:isB d .non=some b) (q:Q (.bl b) H):wE (isD d .non H) Q:=⟨_,_,by simp[isD,h],q⟩
theorem w_isnN {d:D} {b:Bool} (h:isB d .non=some b) (q:Q (.bl (!b)) H):wE (Yb6 d .non H) Q:=⟨_,_,by simp[Yb6,h],q⟩
theorem Yc9 {n:Nat} {kvs:List (D×D)} {fz:Bool} (h:H[n]? = some (.dic kvs fz)) (q:Q (.int kvs.length) H):wE (Zsy [.ref n] H) Q:=⟨_,_,by simp[Zsy,Yao,h],q⟩
theorem Zyl {n:Nat} {kvs:List (D×D)} {fz:Bool} {k:D} {ks:List Int} {v:D} (h:H[n]? = some (.dic kvs fz)) (hk:nk k=some ks) (hv:Zbk kvs ks=some v) (q:Q v H):wE (Zf6 (.ref n) k H) Q:=⟨_,_,by simp[Zf6,Yao,h,hk,hv],q⟩
theorem w_truB {b:Bool} {P:Bool->Prop} (h:P b):∃ c,Zuc (.bl b) H=some c/\P c:=⟨b,rfl,h⟩
theorem w_isi' {d:D} {c t:String} {r:Bool} (ha:Ztv c=true) (h:tyD d H=some t) (hr:(t==c||(t == "bool" && c == "int"))=r) (q:Q (.bl r) H):wE (Zoe [d,.ty c] H) Q:=w_isi ha h (by rw[hr]; exact q)
theorem w_eqS' {a b:Str} {r:Bool} (hr:(a==b)=r) (q:Q (.bl r) H):wE (eqD (.str a) (.str b) H) Q:=w_eqS (by rw[hr]; exact q)
theorem w_eqI' {a b:Int} {r:Bool} (hr:(a==b)=r) (q:Q (.bl r) H):wE (eqD (.int a) (.int b) H) Q:=w_eqI (by rw[hr]; exact q)
theorem w_slhi {xs:List D} {k:Nat} (q:Q (.tup (xs.take k)) H):wE (slD (.tup xs) none (some (k:Int)) H) Q:=⟨_,_,slhi,q⟩
theorem w_sllo {xs:List D} {k:Nat} (q:Q (.tup (xs.drop k)) H):wE (slD (.tup xs) (some (k:Int)) none H) Q:=⟨_,_,sllo,q⟩
variable {I:List D->Zgy->HD->Prop}
theorem w_isq {f:EF} (h:wE (f σ H) fun d H1=>∃ xs own,Zjr d H1=some (xs,own)/\I xs own H1):wI (iSq f σ H) I:=by
 obtain⟨d,H1,e,xs,own,e2,q⟩:=h
 exact⟨xs,own,H1,by unfold iSq; rw[e]; simp only[Zb]; rw[e2]; rfl,q⟩
theorem w_itT {xs:List D} {P:List D->Zgy->Prop} (h:P xs []):∃ ys own,Zjr (.tup xs) H=some (ys,own)/\P ys own:=⟨_,_,rfl,h⟩
theorem w_itR {n:Nat} {xs:List D} {P:List D->Zgy->Prop} (g:H[n]? = some (.lst xs)) (h:P xs [(n,.lst xs)]):∃ ys own,Zjr (.ref n) H=some (ys,own)/\P ys own:=⟨_,_,by simp[Zjr,g],h⟩
theorem w_ir1 {f:AF} (h:wA (f σ H) fun ds H1=>∃ j,ds=[.int j]/\Zn1 j/\I (Zba 0 j.toNat) [] H1):wI (iR1 f σ H) I:=by
 obtain⟨ds,H1,e,j,rfl,s,q⟩:=h
 exact⟨_,_,H1,by unfold iR1; rw[e]; exact if_pos s,q⟩
theorem w_idic {f:EF} (h:wE (f σ H) fun d H1=>∃ n kvs fz,d=.ref n/\H1[n]? = some (.dic kvs fz)/\I (kvs.map (·.1)) [(n,.dic kvs true)] (H1.set n (.dic kvs true))):wI (Yad f σ H) I:=by
 obtain⟨d,H1,e,n,kvs,fz,rfl,g,q⟩:=h
 exact⟨_,_,_,by unfold Yad; rw[e]; simp only[Zb,g],q⟩
theorem w_enum {f:AF} (h:wA (f σ H) fun ds H1=>∃ xs,ds=[.tup xs]/\I (Zck 0 xs) [] H1):wI (Zn8 f σ H) I:=by
 obtain⟨ds,H1,e,xs,rfl,q⟩:=h
 exact⟨_,_,H1,by unfold Zn8; rw[e]; rfl,q⟩
theorem w_zip {f:AF} (h:wA (f σ H) fun ds H1=>∃ d1 d2 a b,ds=[d1,d2]/\Zwk d1 H1=some a/\Zwk d2 H1=some b/\I (Zqc a.1 b.1) (a.2++b.2) H1):wI (Zvo f σ H) I:=by
 obtain⟨ds,H1,e,d1,d2,a,b,rfl,e1,e2,q⟩:=h
 exact⟨_,_,H1,by unfold Zvo; rw[e]; simp only[Zb]; rw[e1]; simp only[Zb]; rw[e2]; rfl,q⟩
theorem Zn5 {own:Zgy} {g:GF} {b:SF} (h:Zcb own H) (q:R .nx σ H):wS (Zif own g b [] σ H) R:=⟨_,_,_,by rw[Zif,if_pos h],q⟩
nonrec def again (k:SD->HD->Prop) (R:FD->SD->HD->Prop):FD->SD->HD->Prop
 | .nx,σ,H=>k σ H
 | .ct,σ,H=>k σ H
 | .bk,σ,H=>R .nx σ H
 | .rt d,σ,H=>R (.rt d) σ H
theorem Zfl {own:Zgy} {g:GF} {b:SF} {x:D} {r:List D} (h:Zcb own H) (q:wG (g x σ H) fun σ1 H1=>wS (b σ1 H1) (again (fun σ2 H2=>wS (Zif own g b r σ2 H2) R) R)):wS (Zif own g b (x::r) σ H) R:=by
 obtain⟨σ1,H1,e1,y,σ2,H2,e2,q⟩:=q
 rw[Zif,if_pos h,e1]
 simp only[Zb]
 rw[e2]
 cases y with
 | nx=>exact q
 | ct=>exact q
 | bk=>exact⟨_,_,_,rfl,q⟩
 | rt d=>exact⟨_,_,_,rfl,q⟩
theorem w_agn {k:SD->HD->Prop} (h:k σ H):again k R .nx σ H:=h
theorem w_agr {k:SD->HD->Prop} {d:D} (h:R (.rt d) σ H):again k R (.rt d) σ H:=h
theorem Zbo {own:Zgy} {g:GF} {b:SF} (Inv:List D->List D->SD->HD->Prop) (ho:∀ d t σ H,Inv d t σ H->Zcb own H)
  (st:∀ d x t σ H,Inv d (x::t) σ H->wG (g x σ H) fun σ1 H1=>wS (b σ1 H1) (again (fun σ2 H2=>Inv (d++[x]) t σ2 H2) R))
  (q:∀ d σ H,Inv d [] σ H->R .nx σ H):∀ (t d:List D) (σ:SD) (H:HD),Inv d t σ H->wS (Zif own g b t σ H) R
 | [],d,σ,H,i=>Zn5 (ho _ _ _ _ i) (q d σ H i)
 | x::t,d,σ,H,i=>by
  refine Zfl (ho _ _ _ _ i) ?_
  obtain⟨σ1,H1,e1,y,σ2,H2,e2,k⟩:=st d x t σ H i
  refine⟨σ1,H1,e1,y,σ2,H2,e2,?_⟩
  cases y with
  | nx=>exact Zbo Inv ho st q t _ σ2 H2 k
  | ct=>exact Zbo Inv ho st q t _ σ2 H2 k
  | bk=>exact k
  | rt d=>exact k
theorem Zkr {own:Zgy} {g:GF} {b:SF} (Inv:SD->HD->Prop) (ho:∀ σ H,Inv σ H->Zcb own H):∀ (xs:List D) (st:∀ x∈xs,∀ σ H,Inv σ H->wG (g x σ H) fun σ1 H1=>wS (b σ1 H1) (again Inv R)) (σ:SD) (H:HD),Inv σ H->(∀ σ H,Inv σ H->R .nx σ H)->wS (Zif own g b xs σ H) R
 | [],st,σ,H,i,q=>Zn5 (ho _ _ i) (q σ H i)
 | x::t,st,σ,H,i,q=>by
  refine Zfl (ho _ _ i) ?_
  obtain⟨σ1,H1,e1,y,σ2,H2,e2,k⟩:=st x (by simp) σ H i
  refine⟨σ1,H1,e1,y,σ2,H2,e2,?_⟩
  cases y with
  | nx=>exact Zkr Inv ho t (fun z hz=>st z (by simp[hz])) σ2 H2 k q
  | ct=>exact Zkr Inv ho t (fun z hz=>st z (by simp[hz])) σ2 H2 k q
  | bk=>exact k
  | rt d=>exact k
theorem w_wh {t:TF} {b:SF} {n:Nat} (h:wT (t σ H) fun x H1=>br x (wS (b σ H1) (again (fun σ2 H2=>wS (sWh t b n σ2 H2) R) R)) (R .nx σ H1)):wS (sWh t b (n+1) σ H) R:=by
 obtain⟨x,H1,e,q1,q2⟩:=h
 rw[sWh]
 dsimp only
 rw[e]
 simp only[Zb]
 cases x with
 | true =>
  rw[if_pos rfl]
  obtain⟨y,σ2,H2,e2,q⟩:=q1 rfl
  rw[e2]
  cases y with
  | nx=>exact q
  | ct=>exact q
  | bk=>exact⟨_,_,_,rfl,q⟩
  | rt d=>exact⟨_,_,_,rfl,q⟩
 | false=>rw[if_neg (by simp)]; exact⟨_,_,_,rfl,q2 rfl⟩
theorem Zoj {t:TF} {b:SF} (Inv:Nat->SD->HD->Prop) (st:∀ m σ H,Inv m σ H->wT (t σ H) fun x H1=>br x (∃ m',m=m'+1/\wS (b σ H1) (again (Inv m') R)) (R .nx σ H1)):∀ (n m:Nat) (σ:SD) (H:HD),m<n->Inv m σ H->wS (sWh t b n σ H) R
 | 0,m,σ,H,h,i=>by omega
 | n+1,m,σ,H,h,i=>by
  refine w_wh ?_
  obtain⟨x,H1,e,q1,q2⟩:=st m σ H i
  refine⟨x,H1,e,fun hx=>?_,q2⟩
  obtain⟨m',rfl,y,σ2,H2,e2,q⟩:=q1 hx
  refine⟨y,σ2,H2,e2,?_⟩
  cases y with
  | nx=>exact Zoj Inv st n m' σ2 H2 (by omega) q
  | ct=>exact Zoj Inv st n m' σ2 H2 (by omega) q
  | bk=>exact q
  | rt d=>exact q
theorem Zp2 {own:Zgy} {c0:SD} {tt:TF} {te:EF} {Q:List D->HD->Prop} (h:Zcb own H) (q:Q [] H):wA (Zew own c0 tt te [] H) Q:=⟨_,_,by rw[Zew,if_pos h],q⟩
theorem Zly {own:Zgy} {c0:SD} {tt:TF} {te:EF} {x:D} {r:List D} {Q:List D->HD->Prop} (h:Zcb own H)
  (q:wT (tt (some x::c0) H) fun b H1=>br b (wE (te (some x::c0) H1) fun e H2=>wA (Zew own c0 tt te r H2) fun es H3=>Q (e::es) H3) (wA (Zew own c0 tt te r H1) Q)):wA (Zew own c0 tt te (x::r) H) Q:=by
 obtain⟨b,H1,e1,q1,q2⟩:=q
 rw[Zew,if_pos h,e1]
 simp only[Zb]
 cases b with
 | true =>
  obtain⟨e,H2,e2,es,H3,e3,q⟩:=q1 rfl
  exact⟨e::es,H3,by rw[if_pos rfl,e2]; simp only[Zb]; rw[e3]; rfl,q⟩
 | false=>rw[if_neg (by simp)]; exact q2 rfl
theorem w_yes {Q:Bool->HD->Prop} (q:Q true H):wT (Zsz σ H) Q:=⟨_,_,rfl,q⟩
theorem Zuj {own:Zgy} {c0:SD} {tt:TF} {te:EF} (Inv:List D->List D->List D->HD->Prop) (ho:∀ d t o H,Inv d t o H->Zcb own H)
  (st:∀ d x t o H,Inv d (x::t) o H->wT (tt (some x::c0) H) fun b H1=>br b (wE (te (some x::c0) H1) fun e H2=>Inv (d++[x]) t (o++[e]) H2) (Inv (d++[x]) t o H1))
  {Q:List D->HD->Prop}:∀ (t d o:List D) (H:HD),Inv d t o H->(∀ d o' H',Inv d [] (o++o') H'->Q o' H')->wA (Zew own c0 tt te t H) Q
 | [],d,o,H,i,q=>Zp2 (ho _ _ _ _ i) (q d [] H (by rw[Wab]; exact i))
 | x::t,d,o,H,i,q=>by
  refine Zly (ho _ _ _ _ i) ?_
  obtain⟨b,H1,e1,q1,q2⟩:=st d x t o H i
  refine⟨b,H1,e1,fun h=>?_,fun h=>?_⟩
  ·obtain⟨e,H2,e2,k⟩:=q1 h
   refine⟨e,H2,e2,?_⟩
   refine Zuj Inv ho st t _ _ H2 k fun d' o' H' i'=>q d' (e::o') H' ?_
   rw[Wae] at i'; exact i'
  ·exact Zuj Inv ho st t _ _ H1 (q2 h) fun d' o' H' i'=>q d' o' H' i'
theorem Zb2 {own:Zgy} {c0:SD} {tt:TF} (f:D->Bool) (J:HD->Prop) (ho:∀ H,J H->Zcb own H) {Q:List D->HD->Prop}:∀ (xs:List D) (st:∀ x∈xs,∀ H,J H->wT (tt (some x::c0) H) fun b H1=>b=f x/\J H1) (H:HD),J H->(∀ H',J H'->Q (xs.filter f) H')->wA (Zew own c0 tt (Zac 0) xs H) Q
 | [],st,H,j,q=>Zp2 (ho H j) (q H j)
 | x::xs,st,H,j,q=>by
  refine Zly (ho H j) ?_
  obtain⟨b,H1,e,rfl,j1⟩:=st x (by simp) H j
  refine⟨_,H1,e,fun h=>?_,fun h=>?_⟩
  ·refine⟨x,H1,rfl,?_⟩
   refine Zb2 f J ho xs (fun y hy=>st y (by simp[hy])) H1 j1 fun H' j'=>?_
   have:=q H' j'
   rwa [Wbs h] at this
  ·refine Zb2 f J ho xs (fun y hy=>st y (by simp[hy])) H1 j1 fun H' j'=>?_
   have:=q H' j'
   rwa [Wba (by rw[h]; simp)] at this
theorem Zkt {own:Zgy} {c0:SD} {te:EF} (g:D->D) (J:HD->Prop) (ho:∀ H,J H->Zcb own H) {Q:List D->HD->Prop}:∀ (xs:List D) (st:∀ x∈xs,∀ H,J H->wE (te (some x::c0) H) fun d H1=>d=g x/\J H1) (H:HD),J H->(∀ H',J H'->Q (xs.map g) H')->wA (Zew own c0 Zsz te xs H) Q
 | [],st,H,j,q=>Zp2 (ho H j) (q H j)
 | x::xs,st,H,j,q=>by
  refine Zly (ho H j) (w_yes (w_bt ?_))
  obtain⟨b,H1,e,rfl,j1⟩:=st x (by simp) H j
  exact⟨_,H1,e,Zkt g J ho xs (fun y hy=>st y (by simp[hy])) H1 j1 q⟩
theorem Yb0 {own:Zgy} {c0:SD} {tt:TF} {te:EF} (f:D->Bool) (g:D->D) (J:HD->Prop) (ho:∀ H,J H->Zcb own H) {Q:List D->HD->Prop}:∀ (xs:List D) (st:∀ x∈xs,∀ H,J H->wT (tt (some x::c0) H) fun b H1=>b=f x/\J H1) (st2:∀ x∈xs,f x=true->∀ H,J H->wE (te (some x::c0) H) fun d H1=>d=g x/\J H1) (H:HD),J H->(∀ H',J H'->Q ((xs.filter f).map g) H')->wA (Zew own c0 tt te xs H) Q
 | [],st,st2,H,j,q=>Zp2 (ho H j) (q H j)
 | x::xs,st,st2,H,j,q=>by
  refine Zly (ho H j) ?_
  obtain⟨b,H1,e,rfl,j1⟩:=st x (by simp) H j
  refine⟨_,H1,e,fun h=>?_,fun h=>?_⟩
  ·obtain⟨d,H2,e2,rfl,j2⟩:=st2 x (by simp) h H1 j1
   refine⟨_,H2,e2,?_⟩
   refine Yb0 f g J ho xs (fun y hy=>st y (by simp[hy])) (fun y hy=>st2 y (by simp[hy])) H2 j2 fun H' j'=>?_
   have:=q H' j'
   rwa [Wbs h] at this
  ·refine Yb0 f g J ho xs (fun y hy=>st y (by simp[hy])) (fun y hy=>st2 y (by simp[hy])) H1 j1 fun H' j'=>?_
   have:=q H' j'
   rwa [Wba (by rw[h]; simp)] at this
end
structure Fm (S:List Nat) (H H':HD):Prop where
 old:∀ (m:Nat) (o:DO),m∉S->H[m]? = some o->H'[m]? = some o\/∃ kvs,o=.dic kvs false/\H'[m]? = some (.dic kvs true)
 len:H.length<=H'.length
theorem Fm.refl {S:List Nat} {H:HD}:Fm S H H:=⟨fun _ _ _ h=>.inl h,Xd _⟩
theorem Fm.trans {S:List Nat} {H H1 H2:HD} (a:Fm S H H1) (b:Fm S H1 H2):Fm S H H2:=by
 refine⟨fun m o hm h=>?_,Wag a.len b.len⟩
 rcases a.old m o hm h with h1 | ⟨kvs,rfl,h1⟩
 ·exact b.old m o hm h1
 ·rcases b.old m _ hm h1 with h2 | ⟨k2,e,_⟩
  ·exact .inr ⟨kvs,rfl,h2⟩
  ·cases e
theorem Fm.sub {S T:List Nat} {H H':HD} (a:Fm S H H') (h:∀ m∈S,m∈T):Fm T H H':=⟨fun m o hm q=>a.old m o (fun z=>hm (h m z)) q,a.len⟩
theorem Fm.app {S:List Nat} {H:HD} (L:HD):Fm S H (H++L):=⟨fun m o _ q=>.inl (by
 have:m<H.length:=(Xc.mp q).1
 rw[Xh this]; exact q),by simp⟩
theorem Fm.set {S:List Nat} {H:HD} {p:Nat} {o:DO} (h:p∈S):Fm S H (H.set p o):=⟨fun m u hm q=>.inl (by rw[Wap (fun z=>hm (by rw[<- z]; exact h))]; exact q),by simp⟩
theorem Fm.new {S T:List Nat} {H H1 H':HD} (a:Fm S H H1) (b:Fm T H1 H') (h:∀ m∈T,m∉S->H.length<=m):Fm S H H':=by
 refine⟨fun m o hm q=>?_,Wag a.len b.len⟩
 have lt:m<H.length:=(Xc.mp q).1
 have ht:m∉T:=fun z=>by have:=h m z hm; omega
 rcases a.old m o hm q with h1 | ⟨kvs,rfl,h1⟩
 ·exact b.old m o ht h1
 ·rcases b.old m _ ht h1 with h2 | ⟨k2,e,_⟩
  ·exact .inr ⟨kvs,rfl,h2⟩
  ·cases e
theorem Fm.lst {S:List Nat} {H H':HD} (x:Fm S H H') {m:Nat} {xs:List D} (hm:m∉S) (h:H[m]? = some (.lst xs)):H'[m]? = some (.lst xs):=by
 rcases x.old m _ hm h with h1 | ⟨k2,e,_⟩
 ·exact h1
 ·cases e
theorem Fm.fr {S:List Nat} {H H':HD} (x:Fm S H H') {m:Nat} {kvs:List (D×D)} (hm:m∉S) (h:H[m]? = some (.dic kvs true)):H'[m]? = some (.dic kvs true):=by
 rcases x.old m _ hm h with h1 | ⟨k2,e,_⟩
 ·exact h1
 ·cases e
theorem Fm.dic {S:List Nat} {H H':HD} (x:Fm S H H') {m:Nat} {kvs:List (D×D)} {fz:Bool} (hm:m∉S) (h:H[m]? = some (.dic kvs fz)):∃ fz',H'[m]? = some (.dic kvs fz'):=by
 rcases x.old m _ hm h with h1 | ⟨k2,e,h1⟩
 ·exact⟨fz,h1⟩
 ·cases e; exact⟨true,h1⟩
theorem _root_.LH.ExtS.fm {S:List Nat} {H H':HD} (x:ExtS S H H'):Fm S H H':=⟨fun m o hm q=>.inl (x.old m o hm q),x.len⟩
theorem isl {H:HD} {n:Nat} {xs:List D} (h:H[n]? = some (.lst xs)):Zoz (.ref n) H=true:=by simp[Zoz,h]
theorem Zot {H:HD} {n:Nat} {o:DO} (h:H[n]? = some o):Zcb [(n,o)] H:=by intro p hp; simp at hp; subst hp; exact h
theorem Ze8 {H:HD}:Zcb [] H:=by intro p hp; cases hp
theorem last {H:HD} {o:DO}:(H++[o])[H.length]? = some o:=by simp
theorem appL {H:HD} {n:Nat} {o u:DO} (h:H[n]? = some o):(H++[u])[n]? = some o:=by
 rw[Xh (Xc.mp h).1]; exact h
theorem Zrc {H:HD} {n m:Nat} {o u:DO} (hn:n≠m) (h:H[m]? = some o):(H.set n u)[m]? = some o:=by rw[Wap hn]; exact h
theorem Zhu {H:HD} {n:Nat} {o u:DO} (h:H[n]? = some u):(H.set n o)[n]? = some o:=Wbc (Xc.mp h).1
structure Fine (d:D) (x:Vz) (h:Nat):Prop where
 to:∀ H n,toP H n d=some x
 lay:x.canLay0=true
 dep:x.depth<=h
theorem Fine.le {d:D} {x:Vz} {h h':Nat} (f:Fine d x h) (l:h<=h'):Fine d x h':=⟨f.to,f.lay,Wag f.dep l⟩
theorem Fine.int (i:Int):Fine (.int i) (.int i) 0:=⟨fun H n=>Zux H n i,rfl,Xd _⟩
theorem Fine.bl (b:Bool):Fine (.bl b) (.bool b) 0:=⟨fun H n=>Yeg H n b,rfl,Xd _⟩
theorem Fine.str {s:Str} (h:Tan s=true):Fine (.str s) (.str s) 0:=⟨fun H n=>Zjq H n s,h,Xd _⟩
structure Fines (ds:List D) (xs:List Vz) (h:Nat):Prop where
 to:∀ H n,Zvd H n ds=some xs
 lay:Tah xs=true
 dep:Tbv xs<=h
 len:xs.length=ds.length
theorem Fines.nil {h:Nat}:Fines [] [] h:=⟨fun H n=>by rw[Zvd],rfl,Wbm _,rfl⟩
theorem Fines.cons {d:D} {x:Vz} {ds:List D} {xs:List Vz} {h:Nat} (a:Fine d x h) (b:Fines ds xs h):Fines (d::ds) (x::xs) h :=
 ⟨fun H n=>by rw[Zvd,a.to,b.to]; rfl,by simp[Tah,a.lay,b.lay],by simp only[Tbv]; exact Nat.max_le.mpr ⟨a.dep,b.dep⟩,by simp[b.len]⟩
theorem Fines.of {h:Nat}:∀ ds:List D,(∀ d∈ds,∃ x,Fine d x h)->∃ xs,Fines ds xs h
 | [],_=>⟨[],.nil⟩
 | d::ds,f=>by
  obtain⟨x,a⟩:=f d (by simp)
  obtain⟨xs,b⟩:=Fines.of ds fun e he=>f e (by simp[he])
  exact⟨x::xs,.cons a b⟩
theorem Fine.tup {ds:List D} {xs:List Vz} {h:Nat} (f:Fines ds xs h):Fine (.tup ds) (.tuple xs) (h+1) :=
 ⟨fun H n=>by cases n<;>rw[toP,f.to]<;>rfl,f.lay,Wfu f.dep⟩
theorem Fine.dat {d:D} {x:Vz} {h:Nat} (f:Fine d x h) (l:h<=30) (H:HD):DL.dat d H=some x:=by
 unfold DL.dat
 rw[f.to]
 have:x.depth<=30:=Wag f.dep l
 simp[okP,f.lay,this]
theorem Fines.dat {ds:List D} {xs:List Vz} {h:Nat} (f:Fines ds xs h) (l:h<30) {H:HD} {p:Nat} (g:H[p]? = some (.lst ds)):DL.dat (.ref p) H=some (.list xs):=by
 unfold DL.dat
 rw[toP]
 simp only[g]
 rw[f.to]
 have:(PyData.list xs).depth<=30:=Wag (Wfu f.dep) l
 have h2:(PyData.list xs).canLay0=true:=f.lay
 simp[okP,h2,this]
mutual
theorem Zmf:∀ x:Vz,x.canLay0=true->Ub x x=true
 | .none,_=>by simp[Ub]
 | .bool _,_=>by simp[Ub]
 | .int _,_=>by simp[Ub]
 | .str _,_=>by simp[Ub]
 | .list xs,h=>by rw[Ub]; exact Zgg xs h
 | .tuple xs,h=>by rw[Ub]; exact Zgg xs h
 | .dict _,h=>by cases h
theorem Zgg:∀ xs:List Vz,Tah xs=true->Uq xs xs=true
 | [],_=>by rw[Uq]
 | x::xs,h=>by
  simp only[Tah,Wah] at h
  rw[Uq,Zmf x h.1,Zgg xs h.2]; rfl
end
theorem Zv1 {a b:D} {x y:Vz} {H:HD} (h1:dat a H=some x) (h2:dat b H=some y):eqD a b H=some (.bl (Ub x y),H):=by
 unfold eqD
 cases e:Zrm a b with
 | none=>rw[h1,h2]; rfl
 | some p =>
  obtain⟨s,t⟩:=p
  unfold Zrm at e
  split at e
  ·cases e
   unfold dat at h1 h2
   rw[Zjq] at h1 h2
   simp only[Zb] at h1 h2
   split at h1
   ·split at h2
    ·cases h1; cases h2; simp[Ub]
    ·cases h2
   ·cases h1
  ·cases e
theorem Zo2 {a b:D} {x y:Vz} {H:HD} (h1:dat a H=some x) (h2:dat b H=some y):neD a b H=some (.bl (!Ub x y),H):=by
 unfold neD
 cases e:Zrm a b with
 | none=>rw[h1,h2]; rfl
 | some p =>
  obtain⟨s,t⟩:=p
  unfold Zrm at e
  split at e
  ·cases e
   unfold dat at h1 h2
   rw[Zjq] at h1 h2
   simp only[Zb] at h1 h2
   split at h1
   ·split at h2
    ·cases h1; cases h2; simp[Ub]; rfl
    ·cases h2
   ·cases h1
  ·cases e
variable {H:HD} {Q:D->HD->Prop}
theorem w_eqF {a b:D} {x y:Vz} {h k:Nat} (f:Fine a x h) (g:Fine b y k) (hh:h<=30) (hk:k<=30) (q:Q (.bl (Ub x y)) H):wE (eqD a b H) Q:=⟨_,_,Zv1 (f.dat hh H) (g.dat hk H),q⟩
theorem Zxh {a b:D} {x y:Vz} {h k:Nat} (f:Fine a x h) (g:Fine b y k) (hh:h<=30) (hk:k<=30) (q:Q (.bl (!Ub x y)) H):wE (neD a b H) Q:=⟨_,_,Zo2 (f.dat hh H) (g.dat hk H),q⟩
theorem Zx6 {a:D} {x:Vz} {h:Nat} (f:Fine a x h) (hh:h<=30) (q:Q (.bl false) H):wE (neD a a H) Q:=Zxh f f hh hh (by rw[Zmf x f.lay]; exact q)
theorem w_niL {a:D} {x:Vz} {h k p:Nat} {ds:List D} {xs:List Vz} (f:Fine a x h) (g:Fines ds xs k) (hh:h<=30) (hk:k<30) (hp:H[p]? = some (.lst ds)) (q:Q (.bl (!xs.any fun z=>Ub z x)) H):wE (niD a (.ref p) H) Q :=
 ⟨_,_,by unfold niD; rw[f.dat hh,Zb,g.dat hk hp]; rfl,q⟩
theorem Yee {a:D} {x:Vz} {h k p:Nat} {ds:List D} {xs:List Vz} (f:Fine a x h) (g:Fines ds xs k) (hh:h<=30) (hk:k<30) (hp:H[p]? = some (.lst ds)) (q:Q (.bl (xs.any fun z=>Ub z x)) H):wE (inD a (.ref p) H) Q :=
 ⟨_,_,by unfold inD; rw[f.dat hh,Zb,g.dat hk hp]; rfl,q⟩
theorem w_niT {a:D} {x:Vz} {h k:Nat} {ds:List D} {xs:List Vz} (f:Fine a x h) (g:Fines ds xs k) (hh:h<=30) (hk:k<30) (q:Q (.bl (!xs.any fun z=>Ub z x)) H):wE (niD a (.tup ds) H) Q :=
 ⟨_,_,by unfold niD; rw[f.dat hh,Zb,(Fine.tup g).dat hk]; rfl,q⟩
theorem w_inT {a:D} {x:Vz} {h k:Nat} {ds:List D} {xs:List Vz} (f:Fine a x h) (g:Fines ds xs k) (hh:h<=30) (hk:k<30) (q:Q (.bl (xs.any fun z=>Ub z x)) H):wE (inD a (.tup ds) H) Q :=
 ⟨_,_,by unfold inD; rw[f.dat hh,Zb,(Fine.tup g).dat hk]; rfl,q⟩
theorem w_neI {i j:Int} (q:Q (.bl (!(i==j))) H):wE (neD (.int i) (.int j) H) Q:=Zxh (.int i) (.int j) (by omega) (by omega) (by simpa [Ub] using q)
theorem w_neI' {i j:Int} {r:Bool} (hr:(i==j)=r) (q:Q (.bl (!r)) H):wE (neD (.int i) (.int j) H) Q:=w_neI (by rw[hr]; exact q)
end WP
set_option maxHeartbeats 8000000
namespace K08
open PySem L2 DL
nonrec def k_TRUTHS:D:=(.tup [(.bl false),(.bl true)])
nonrec def Zem:SF :=
 (Zaf (Zbc (eAn (eCB Zoe (Zab (Zac 0) (Zab (eC (.ty "int")) Zag))) (eNo (eCB Zoe (Zab (Zac 0) (Zab (eC (.ty "bool")) Zag))))))
 Zaj)
nonrec def Zf1:FF:=Za4 1 1 Zem
nonrec def Zff:SF :=
 (Zaf (Zbc (eOp gtD (eCB Zr5 (Zab (Zac 0) Zag)) (eCB Zc7 (Zab (Zac 1) Zag))))
 Zaj)
nonrec def Zg2:FF:=Za4 2 2 Zff
nonrec def Zep:SF :=
 (Zaf (Zbc (eAn (eNo (Zap 2 Zg2 (Zab (Zac 0) (Zab (Zac 1) Zag)))) (eOp eqD (eOp ixD (Zac 1) (eOp Zlh (eCB Zr5 (Zab (Zac 0) Zag)) (eC (.int 1)))) (eOp gtD (Zac 0) (eC (.int 0))))))
 Zaj)
nonrec def Zdn:FF:=Za4 2 2 Zep
nonrec def Zi8:SF :=
 (Zaf (Zed (iSq (Zac 0)) (gNm 2) (Zaf (sIf (Zmg (Zfd (Zap 2 Zg2 (Zab (Zac 2) (Zab (Zac 1) Zag)))) (Zfd (Zap 2 Zdn (Zab (Zac 2) (Zab (Zac 1) Zag))))) (Zaf (Zbc (eC (.bl false)))
 Zaj) Zaj)
 Zaj))
 (Zaf (Zbc (eC (.bl true)))
 Zaj))
nonrec def Zm0:FF:=Za4 2 3 Zi8
nonrec def Zby:SF :=
 (Zaf (Zbe 1 eDN)
 (Zaf (Zed (Zn8 (Zab (Zac 0) Zag)) (gTp 2 (gCn (gNm 2) (gCn (gNm 3) gNl))) (Zaf (Zbw (eDM Zj9 (Zac 1) (Zab (Zac 3) (Zab (Zac 2) Zag))))
 Zaj))
 (Zaf (Zbc (Zac 1))
 Zaj)))
nonrec def Zcp:FF:=Za4 1 4 Zby
nonrec def Zcl:SF :=
 (Zaf (Zbe 3 (eIf (Zfd (Zac 2)) (Zac 1) (eUn Zka (Zac 1))))
 (Zaf (Zbe 4 eDN)
 (Zaf (Zed (Yad (Zac 0)) (gNm 5) (Zaf (Zbe 6 (eIf (Zfd (Zac 5)) (eOp ixD (Zac 5) (eC (.int 0))) (eC (.int 0))))
 (Zaf (sIf (tOf (eOp eqD (Zac 6) (eUn Zka (Zac 3)))) (Zaf (Zbw (eDM Zj9 (Zac 4) (Zab (eSl (Zac 5) (Zfb (eC (.int 1))) Zge) (Zab (eOp Zf6 (Zac 0) (Zac 5)) Zag))))
 Zaj) (Zaf (sIf (tOf (eOp neD (Zac 6) (Zac 3))) (Zaf (Zbw (eDM Zj9 (Zac 4) (Zab (Zac 5) (Zab (eOp Zf6 (Zac 0) (Zac 5)) Zag))))
 Zaj) Zaj)
 Zaj))
 Zaj)))
 (Zaf (Zbc (Zac 4))
 Zaj))))
nonrec def Zdl:FF:=Za4 3 7 Zcl
nonrec def Zc6:SF :=
 (Zaf (Zbc (eIf (tOf (eOp eqD (Zac 0) (eC (.str "some")))) (eC (.str "all")) (eC (.str "some"))))
 Zaj)
nonrec def Zci:FF:=Za4 1 1 Zc6
nonrec def Zc8:SF :=
 (Zaf (Zbc (eCB Zzi (Zab (eLC (iSq (Zac 1)) [0] Zsz (eOp eqD (eOp ixD (Zac 1) (eOp Zlh (eCB Zr5 (Zab (Zac 0) Zag)) (eC (.int 1)))) (eC (.str "all")))) Zag)))
 Zaj)
nonrec def Zfr:FF:=Za4 2 2 Zc8
nonrec def Zbq:SF :=
 (Zaf (Zed (Yad (Zac 1)) (gNm 2) (Zaf (sIf (Zfd (Zap 2 Zfr (Zab (Zac 0) (Zab (Zac 2) Zag)))) (Zaf (Zbc (eOp Zf6 (Zac 1) (Zac 2)))
 Zaj) Zaj)
 Zaj))
 (Zaf (Zbc (eC .non))
 Zaj))
nonrec def Zdi:FF:=Za4 2 3 Zbq
nonrec def Zca:SF :=
 (Zaf (Zbc (eAn (Zap 1 Zf1 (Zab (Zac 0) Zag)) (eCh leD ltD (eC (.int 0)) (Zac 0) (Zac 1))))
 Zaj)
nonrec def Zce:FF:=Za4 2 2 Zca
nonrec def Zbh:SF :=
 (Zaf (Zbc (eAn (Zap 1 Zf1 (Zab (Zac 2) Zag)) (eAn (eCh leD leD (eC (.int 1)) (Zac 2) (eCB Zc7 (Zab (Zac 0) Zag))) (eOp neD (eOp ixD (Zac 0) (eOp Zlh (Zac 2) (eC (.int 1)))) (Zac 1)))))
 Zaj)
nonrec def Zcm:FF:=Za4 3 3 Zbh
nonrec def Zej:SF :=
 (Zaf (Zbe 3 (eCB Zc7 (Zab (Zac 2) Zag)))
 (Zaf (sWh (tAn (tOf (eOp gtD (Zac 3) (eC (.int 0)))) (tOf (eOp eqD (eOp ixD (Zac 0) (eOp Zlh (eCB Zr5 (Zab (eOp ixD (Zac 2) (eOp Zlh (Zac 3) (eC (.int 1)))) Zag)) (eC (.int 1)))) (Zac 1)))) (Zaf (sAug (fun i j=>i - j) 3 (eC (.int 1)))
 Zaj) 20)
 (Zaf (Zbc (eSl (Zac 2) Zge (Zfb (Zac 3))))
 Zaj)))
nonrec def Zf2:FF:=Za4 3 4 Zej
nonrec def Zfq:SF :=
 (Zaf (Zbc (eCB Zd0 (Zab (eLC (iSq (Zac 0)) [1] (tOf (eOp neD (Zac 0) (Zac 1))) (Zac 0)) Zag)))
 Zaj)
nonrec def Zgu:FF:=Za4 2 2 Zfq
nonrec def Zoc:SF :=
 (Zaf (Zbe 2 (eCB Zo1 (Zab (Zac 0) Zag)))
 (Zaf (Zed (iSq (Zac 1)) (gNm 3) (Zaf (sIf (tOf (eOp inD (eUn Zka (Zac 3)) (Zac 0))) (Zaf (Zbc (eC .non))
 Zaj) Zaj)
 (Zaf (sIf (tOf (eOp niD (Zac 3) (Zac 0))) (Zaf (Zbw (eLM Zbg (Zac 2) (Zab (Zac 3) Zag)))
 Zaj) Zaj)
 Zaj)))
 (Zaf (Zbc (eCB Zd0 (Zab (eCB Zk4 (Zab (Zac 2) Zag)) Zag)))
 Zaj)))
nonrec def Zu6:FF:=Za4 2 4 Zoc
nonrec def Zgv:SF :=
 (Zaf (sIf (Zmg (tOf (eOp niD (Zac 2) (Zac 0))) (tOf (eOp niD (eUn Zka (Zac 2)) (Zac 1)))) (Zaf (Zbc (eC .non))
 Zaj) Zaj)
 (Zaf (Zbc (Zap 2 Zu6 (Zab (Zap 2 Zgu (Zab (Zac 0) (Zab (Zac 2) Zag))) (Zab (Zap 2 Zgu (Zab (Zac 1) (Zab (eUn Zka (Zac 2)) Zag))) Zag))))
 Zaj))
nonrec def Zik:FF:=Za4 3 3 Zgv
nonrec def Zcd:SF :=
 (Zaf (sIf (Zmg (tOf (eOp neD (eCB Zc7 (Zab (Zac 3) Zag)) (eC (.int 2)))) (tNo (Zfd (Zap 2 Zce (Zab (eOp ixD (Zac 3) (eC (.int 1))) (Zab (eCB Zc7 (Zab (Zac 2) Zag)) Zag)))))) (Zaf (Zbc (eC .non))
 Zaj) Zaj)
 (Zaf (Zbc (Zap 3 Zf2 (Zab (Zac 0) (Zab (Zac 1) (Zab (eOp ixD (Zac 2) (eOp ixD (Zac 3) (eC (.int 1)))) Zag)))))
 Zaj))
nonrec def Zgb:FF:=Za4 4 4 Zcd
nonrec def Zbr:SF :=
 (Zaf (sIf (Zmg (tOf (eOp neD (eCB Zc7 (Zab (Zac 3) Zag)) (eC (.int 4)))) (Zmg (tNo (Zfd (Zap 2 Zce (Zab (eOp ixD (Zac 3) (eC (.int 1))) (Zab (eCB Zc7 (Zab (Zac 2) Zag)) Zag))))) (tNo (Zfd (Zap 2 Zce (Zab (eOp ixD (Zac 3) (eC (.int 2))) (Zab (eCB Zc7 (Zab (Zac 2) Zag)) Zag))))))) (Zaf (Zbc (eC .non))
 Zaj) Zaj)
 (Zaf (sIf (tNo (Zfd (Zap 3 Zcm (Zab (Zac 0) (Zab (Zac 1) (Zab (eOp ixD (Zac 3) (eC (.int 3))) Zag)))))) (Zaf (Zbc (eC .non))
 Zaj) Zaj)
 (Zaf (Zbc (Zap 3 Zik (Zab (eOp ixD (Zac 2) (eOp ixD (Zac 3) (eC (.int 1)))) (Zab (eOp ixD (Zac 2) (eOp ixD (Zac 3) (eC (.int 2)))) (Zab (eOp ixD (Zac 3) (eC (.int 3))) Zag)))))
 Zaj)))
nonrec def Ze7:FF:=Za4 4 4 Zbr
nonrec def Zek:SF :=
 (Zaf (Zbw (eLM Zbg (Zac 2) (Zab (Zdk (Zab (Zac 3) (Zab (Zac 4) Zag))) Zag)))
 (Zaf (Zbe 5 (Zap 3 Zf2 (Zab (Zac 0) (Zab (Zac 1) (Zab (Zac 4) Zag)))))
 (Zaf (sIf (tOf (eOp neD (Zac 5) (Zac 4))) (Zaf (Zbw (eLM Zbg (Zac 2) (Zab (Zdk (Zab (Zdk (Zab (eC (.str "less")) (Zab (eOp Zlh (eCB Zc7 (Zab (Zac 2) Zag)) (eC (.int 1))) Zag))) (Zab (Zac 5) Zag))) Zag)))
 Zaj) Zaj)
 Zaj)))
nonrec def Zfz:FF:=Za4 5 6 Zek
nonrec def Zc2:SF :=
 (Zaf (sIf (tOf (eOp eqD (Zac 0) (eC (.str "all")))) (Zaf (Zbc (Zap 2 Zm0 (Zab (Zac 1) (Zab (Zac 2) Zag))))
 Zaj) Zaj)
 (Zaf (Zbc (eCB Zzi (Zab (eLC (iSq (Zac 1)) [2] Zsz (Zap 2 Zdn (Zab (Zac 0) (Zab (Zac 1) Zag)))) Zag)))
 Zaj))
nonrec def Zfi:FF:=Za4 3 3 Zc2
nonrec def Zbi:SF :=
 (Zaf (Zbc (eIf (tOf (eOp eqD (Zac 2) (eOp eqD (Zac 0) (eC (.str "some"))))) (Zac 1) (eUn Zka (Zac 1))))
 Zaj)
nonrec def Zcz:FF:=Za4 3 3 Zbi
nonrec def Zdw:SF :=
 (Zaf (Zbc (eOp ixD (Zac 1) (eC (.int 1))))
 Zaj)
nonrec def Ziu:FF:=Za4 2 2 Zdw
nonrec def Zfo:SF :=
 (Zaf (sIf (Zmg (tNo (Zfd (eCB Zoe (Zab (Zac 4) (Zab (eC (.ty "tuple")) Zag))))) (tOf (eOp eqD (eCB Zc7 (Zab (Zac 4) Zag)) (eC (.int 0))))) (Zaf (Zbc (eC .non))
 Zaj) Zaj)
 (Zaf (sIf (tOf (eOp eqD (eOp ixD (Zac 4) (eC (.int 0))) (eC (.str "less")))) (Zaf (Zbc (Zap 4 Zgb (Zab (eOp ixD (Zac 0) (eC (.int 0))) (Zab (Zac 1) (Zab (Zac 3) (Zab (Zac 4) Zag))))))
 Zaj) Zaj)
 (Zaf (sIf (tOf (eOp eqD (eOp ixD (Zac 4) (eC (.int 0))) (eC (.str "joined")))) (Zaf (Zbc (Zap 4 Ze7 (Zab (eOp ixD (Zac 0) (eC (.int 0))) (Zab (Zac 1) (Zab (Zac 3) (Zab (Zac 4) Zag))))))
 Zaj) Zaj)
 (Zaf (Zbc (Zmj 2 2 "told_term" Ziu (Zab (Zac 0) (Zab (Zac 4) Zag))))
 Zaj))))
nonrec def Zg3:FF:=Za4 5 5 Zfo
nonrec def Zer:SF :=
 (Zaf (Zbe 4 (Zdj Zag))
 (Zaf (Zed (Zqy (Zab (Zac 3) Zag)) (gTp 2 (gCn (gNm 5) (gCn (gNm 6) gNl))) (Zaf (Zbe 7 (Zap 5 Zg3 (Zab (Zac 0) (Zab (Zac 1) (Zab (Zac 2) (Zab (Zac 4) (Zab (Zac 6) Zag)))))))
 (Zaf (sIf (tOf (eOp isD (Zac 7) (eC .non))) (Zaf sErr
 Zaj) Zaj)
 (Zaf (Zbw (eLM Zbg (Zac 4) (Zab (Zac 7) Zag)))
 Zaj))))
 (Zaf (Zbc (Zac 4))
 Zaj)))
nonrec def Zh1:FF:=Za4 4 8 Zer
nonrec def Zeo:SF :=
 (Zaf (Zbe 5 (Zap 4 Zh1 (Zab (Zac 0) (Zab (Zac 1) (Zab (Zac 2) (Zab (Zac 3) Zag))))))
 (Zaf (Zbe 6 (eOp Zb6 (eCB Zc7 (Zab (Zac 4) Zag)) (eC (.int 1))))
 (Zaf (Zed (Zvo (Zab (Zac 3) (Zab (Zac 5) Zag))) (gTp 2 (gCn (gNm 7) (gCn (gNm 8) gNl))) (Zaf (sIf (tAn (tOf (eOp eqD (eOp ixD (Zac 7) (eC (.int 0))) (eC (.str "less")))) (Zfd (Zap 3 Zfi (Zab (Zac 1) (Zab (Zac 8) (Zab (Zac 4) Zag)))))) (Zaf (Zed (iSq (eC k_TRUTHS)) (gNm 9) (Zaf (sIf (tOf (eOp inD (Zap 3 Zcz (Zab (Zac 1) (Zab (Zac 6) (Zab (Zac 9) Zag)))) (eOp ixD (Zac 5) (eOp ixD (Zac 7) (eC (.int 1)))))) (Zaf (Zbc (Zac 9))
 Zaj) Zaj)
 Zaj))
 Zaj) Zaj)
 Zaj))
 (Zaf (Zbc (eC (.bl false)))
 Zaj))))
nonrec def Zkn:FF:=Za4 5 10 Zeo
nonrec def Zeb:SF :=
 (Zaf (Zbc (Zap 5 Zkn (Zab (Zac 0) (Zab (eC (.str "some")) (Zab (eC (.ty "told_term")) (Zab (Zac 1) (Zab (Zac 2) Zag)))))))
 Zaj)
nonrec def Zhr:FF:=Za4 3 3 Zeb
nonrec def Zbb:SF :=
 (Zaf (Zbc (eCB Ydc (Zab (eLC (iSq (Zac 0)) [1] Zsz (eOp Yfh (Zac 0) (Zac 1))) Zag)))
 Zaj)
nonrec def Zb5:FF:=Za4 2 2 Zbb
nonrec def Zb9:SF :=
 (Zaf (Zbe 2 eDI)
 (Zaf (Zed (iSq (Zac 0)) (gNm 3) (Zaf (sIf (tNo (Zfd (Zap 2 Zb5 (Zab (Zac 3) (Zab (Zac 2) Zag))))) (Zaf (Zbe 4 (eLC (iSq (Zac 3)) [1] (Zfd (Zap 2 Zdn (Zab (Zac 0) (Zab (Zac 1) Zag)))) (Zac 0)))
 (Zaf (Zsl (eC (.bl true)) (gSb (Zac 2) (eOp ixD (Zac 4) (eC (.int 0))) Zpq))
 Zaj)) Zaj)
 Zaj))
 (Zaf (Zbc (eCB Zd0 (Zab (eCB Zht (Zab (Zac 2) Zag)) Zag)))
 Zaj)))
nonrec def Zea:FF:=Za4 2 5 Zb9
nonrec def Zfe:SF :=
 (Zaf (Zbe 2 (eOp ixD (Zdj (Zab (eC (.int 2147483647)) (Zab (eC (.int 2147483629)) (Zab (eC (.int 2147483587)) (Zab (eC (.int 2147483579)) (Zab (eC (.int 2147483563)) (Zab (eC (.int 2147483549)) (Zab (eC (.int 2147483543)) Zag)))))))) (eOp Zfc (Zac 1) (eC (.int 7)))))
 (Zaf (Zbe 3 (eOp Zfc (eOp Zqd (eOp Zb6 (eOp Zfc (Zac 0) (eC (.int 998244353))) (eOp Zqd (eC (.int 104729)) (eOp Zb6 (Zac 1) (eC (.int 1))))) (eOp Zb6 (eOp Zb6 (eOp Zqd (Zac 1) (Zac 1)) (eOp Zqd (eC (.int 7)) (Zac 1))) (eC (.int 13)))) (Zac 2)))
 (Zaf (Zbe 3 (eOp Zfc (eOp Yb7 (Zac 3) (eC (.int 5))) (eC (.int 1000000007))))
 (Zaf (Zbe 3 (eOp Zfc (eOp Zb6 (eOp Zb6 (eOp Zqd (Zac 3) (eC (.int 48271))) (eOp Zqd (eC (.int 31)) (Zac 1))) (eC (.int 5))) (Zac 2)))
 (Zaf (Zbc (eOp Zl2 (eOp Zfc (eOp Yb7 (Zac 3) (eC (.int 3))) (eC (.int 998244353))) (eC (.int 8))))
 Zaj)))))
nonrec def Ziy:FF:=Za4 2 4 Zfe
nonrec def Zdd:SF :=
 (Zaf (Zbe 2 (Zdj Zag))
 (Zaf (Zbe 3 (eCB Zr5 (Zab (Zac 0) Zag)))
 (Zaf (Zbe 4 (eOp geD (Zac 3) (eOp Yb7 (eC (.int 10)) (eC (.int 18)))))
 (Zaf (Zed (iR1 (Zab (Zac 1) Zag)) (gNm 5) (Zaf (sIf (tAn (Zfd (Zac 4)) (tOf (eOp gtD (Zac 3) (eC (.int 0))))) (Zaf (Zbw (eLM Zbg (Zac 2) (Zab (eOp Zfc (Zac 3) (eC (.int 10007))) Zag)))
 (Zaf (Zbe 3 (eOp Zl2 (Zac 3) (eC (.int 10007))))
 Zaj)) (Zaf (Zbw (eLM Zbg (Zac 2) (Zab (Zap 2 Ziy (Zab (Zac 0) (Zab (Zac 5) Zag))) Zag)))
 Zaj))
 Zaj))
 (Zaf (Zbc (Zac 2))
 Zaj)))))
nonrec def Zch:FF:=Za4 2 6 Zdd
nonrec def Zhb:SF :=
 (Zaf (sIf (tOf (eOp ltD (Zac 1) (eCB Zc7 (Zab (Zac 0) Zag)))) (Zaf (Zbc (eOp ixD (Zac 0) (Zac 1)))
 Zaj) Zaj)
 (Zaf (Zbc (eOp Zb6 (eOp Zb6 (eOp Zqd (eC (.int 67)) (Zac 1)) (eC (.int 19))) (eCB Zc7 (Zab (Zac 0) Zag))))
 Zaj))
nonrec def Zd3:FF:=Za4 2 2 Zhb
nonrec def Zdq:SF :=
 (Zaf (Zbe 2 (Zdj Zag))
 (Zaf (Zed (iR1 (Zab (Zac 1) Zag)) (gNm 3) (Zaf (Zbe 4 (eOp ixD (Zdj (Zab (eC (.str "all")) (Zab (eC (.str "some")) Zag))) (eOp Zfc (eOp ixD (Zac 0) (eOp Zb6 (eC (.int 1)) (Zac 3))) (eC (.int 2)))))
 (Zaf (sIf (tOf (eOp eqD (eOp Zfc (eOp ixD (Zac 0) (eC (.int 0))) (eC (.int 4))) (eC (.int 1)))) (Zaf (Zbe 4 (eOp ixD (Zdj (Zab (eC (.str "some")) (Zab (eC (.str "all")) Zag))) (eOp Zfc (eOp Zb6 (Zac 3) (eOp ixD (Zac 0) (eC (.int 1)))) (eC (.int 2)))))
 Zaj) Zaj)
 (Zaf (sIf (tOf (eOp eqD (eOp Zfc (eOp ixD (Zac 0) (eC (.int 0))) (eC (.int 4))) (eC (.int 2)))) (Zaf (Zbe 4 (eOp ixD (Zdj (Zab (eC (.str "all")) (Zab (eC (.str "some")) Zag))) (eCB Zrh (Zab (eOp gtD (eOp Zfc (eOp ixD (Zac 0) (eOp Zb6 (eC (.int 1)) (Zac 3))) (eC (.int 3))) (eC (.int 0))) Zag))))
 Zaj) Zaj)
 (Zaf (Zbw (eLM Zbg (Zac 2) (Zab (Zac 4) Zag)))
 Zaj)))))
 (Zaf (Zbc (eCB Zd0 (Zab (Zac 2) Zag)))
 Zaj)))
nonrec def Zgn:FF:=Za4 2 5 Zdq
nonrec def Zfk:SF :=
 (Zaf (Zbe 3 (Zap 2 Zch (Zab (Zac 0) (Zab (eOp Zb6 (Zac 1) (eC (.int 1))) Zag))))
 (Zaf (Zbe 4 (Zdj Zag))
 (Zaf (Zed (iR1 (Zab (Zac 1) Zag)) (gNm 5) (Zaf (sIf (tOf (eOp ltD (eOp Zfc (eOp ixD (Zac 3) (eOp Zb6 (eC (.int 1)) (Zac 5))) (eOp Zb6 (Zac 1) (eC (.int 1)))) (eOp Zb6 (Zac 2) (eOp Zfc (eOp ixD (Zac 3) (eC (.int 0))) (eC (.int 3)))))) (Zaf (Zbw (eLM Zbg (Zac 4) (Zab (eOp ixD (Zdj (Zab (eOp Zb6 (Zac 5) (eC (.int 1))) (Zab (eOp Zlh (eOp Zlh (eC (.int 0)) (Zac 5)) (eC (.int 1))) Zag))) (eOp Zfc (eOp Zl2 (eOp ixD (Zac 3) (eOp Zb6 (eC (.int 1)) (Zac 5))) (eOp Zb6 (Zac 1) (eC (.int 1)))) (eC (.int 2)))) Zag)))
 Zaj) Zaj)
 Zaj))
 (Zaf (Zbc (eCB Zd0 (Zab (Zac 4) Zag)))
 Zaj))))
nonrec def Ziq:FF:=Za4 3 6 Zfk
nonrec def Zdz:SF :=
 (Zaf (Zbe 2 (Zap 2 Zch (Zab (Zap 2 Zd3 (Zab (Zac 0) (Zab (eC (.int 0)) Zag))) (Zab (eC (.int 14)) Zag))))
 (Zaf (Zbe 3 (eOp ixD (Zdj (Zab (eOp Zfc (eOp ixD (Zac 2) (eC (.int 0))) (eOp Zb6 (Zac 1) (eC (.int 1)))) (Zab (eOp Zlh (Zac 1) (eOp Zfc (eOp ixD (Zac 2) (eC (.int 0))) (eC (.int 3)))) (Zab (Zac 1) Zag)))) (eOp Zfc (eOp ixD (Zac 2) (eC (.int 1))) (eC (.int 3)))))
 (Zaf (Zbe 4 (Zap 2 Zgn (Zab (eSl (Zac 2) (Zfb (eC (.int 2))) Zge) (Zab (eCB maxD (Zab (eC (.int 0)) (Zab (Zac 3) Zag))) Zag))))
 (Zaf (Zbe 5 (eOp ixD (Zdj (Zab (eOp Zfc (eOp ixD (Zac 2) (eC (.int 12))) (eC (.int 5))) (Zab (eOp Zfc (eOp ixD (Zac 2) (eC (.int 12))) (eC (.int 11))) (Zab (eOp Zb6 (eC (.int 5)) (eOp Zfc (eOp ixD (Zac 2) (eC (.int 12))) (eC (.int 16)))) Zag)))) (eOp Zfc (eOp ixD (Zac 2) (eC (.int 11))) (eC (.int 3)))))
 (Zaf (Zbe 6 (eLC (iR1 (Zab (Zac 5) Zag)) [0,4] Zsz (Zap 3 Ziq (Zab (Zap 2 Zd3 (Zab (Zac 1) (Zab (eOp Zb6 (eC (.int 1)) (Zac 0)) Zag))) (Zab (eCB Zc7 (Zab (Zac 2) Zag)) (Zab (eC (.int 1)) Zag))))))
 (Zaf (sIf (tOf (eOp gtD (eOp Zfc (eOp ixD (Zac 2) (eC (.int 13))) (eC (.int 3))) (eC (.int 0)))) (Zaf (Zbe 6 (eLC (iSq (Zac 6)) [] (tOf (eOp neD (Zac 0) (Zdk Zag))) (Zac 0)))
 Zaj) Zaj)
 (Zaf (Zbc (Zdk (Zab (Zac 4) (Zab (eCB Zd0 (Zab (Zac 6) Zag)) Zag))))
 Zaj)))))))
nonrec def Zgq:FF:=Za4 2 7 Zdz
nonrec def Zdr:SF :=
 (Zaf (Zbc (eOp eqD (eOp ixD (Zac 1) (eOp Zlh (eCB Zr5 (Zab (Zac 0) Zag)) (eC (.int 1)))) (eOp gtD (Zac 0) (eC (.int 0)))))
 Zaj)
nonrec def Zdu:FF:=Za4 2 2 Zdr
nonrec def Zdx:SF :=
 (Zaf (Zbe 1 (Zdj (Zab (Zdk Zag) Zag)))
 (Zaf (Zed (iR1 (Zab (Zac 0) Zag)) (gNm 2) (Zaf (Zbe 3 (Zdj Zag))
 (Zaf (Zed (iSq (Zac 1)) (gNm 4) (Zaf (Zbe 3 (eOp Zb6 (Zac 3) (Zdj (Zab (eOp Zb6 (Zac 4) (Zdk (Zab (eC (.bl false)) Zag))) (Zab (eOp Zb6 (Zac 4) (Zdk (Zab (eC (.bl true)) Zag))) Zag)))))
 Zaj))
 (Zaf (Zbe 1 (Zac 3))
 Zaj))))
 (Zaf (Zbc (Zac 1))
 Zaj)))
nonrec def Zcv:FF:=Za4 1 5 Zdx
nonrec def Zes:SF :=
 (Zaf (Zed (iSq (Zac 0)) (gNm 2) (Zaf (sIf (tOf (eOp eqD (eLC (iSq (Zac 2)) [1] (Zfd (Zap 2 Zdu (Zab (Zac 0) (Zab (Zac 1) Zag)))) (Zac 0)) (Zdj Zag))) (Zaf (Zbc (eC (.bl true)))
 Zaj) Zaj)
 Zaj))
 (Zaf (Zbc (eC (.bl false)))
 Zaj))
nonrec def Zcs:FF:=Za4 2 3 Zes
nonrec def Zcn:SF :=
 (Zaf (Zsl (Zac 0) (gTp 2 (gCn (gNm 4) (gCn (gNm 5) gNl))))
 (Zaf (Zbe 1 eDN)
 (Zaf (Zed (iSq (Zap 1 Zcv (Zab (eCB Zc7 (Zab (Zac 4) Zag)) Zag))) (gNm 2) (Zaf (Zsl (eOp ixD (Zdj (Zab (eC (.str "some")) (Zab (eC (.str "all")) Zag))) (eCB Zrh (Zab (Zap 2 Zcs (Zab (Zac 5) (Zab (Zac 2) Zag))) Zag))) (gSb (Zac 1) (Zac 2) Znv))
 Zaj))
 (Zaf (Zed (iRB (Zab (eOp Zlh (eCB Zc7 (Zab (Zac 4) Zag)) (eC (.int 1))) (Zab (eUn Zka (eC (.int 1))) (Zab (eUn Zka (eC (.int 1))) Zag)))) (gNm 3) (Zaf (Zed (iSq (Zap 1 Zcv (Zab (Zac 3) Zag))) (gNm 2) (Zaf (Zbe 6 (Zdj (Zab (eOp Zf6 (Zac 1) (eOp Zb6 (Zac 2) (Zdk (Zab (eC (.bl false)) Zag)))) (Zab (eOp Zf6 (Zac 1) (eOp Zb6 (Zac 2) (Zdk (Zab (eC (.bl true)) Zag)))) Zag))))
 (Zaf (Zbe 7 (eOp ixD (Zdj (Zab (eC (.str "all")) (Zab (eC (.str "some")) Zag))) (eCB Zrh (Zab (eOp eqD (eOp ixD (Zac 4) (Zac 3)) (eC (.str "all"))) Zag))))
 (Zaf (Zsl (eOp ixD (Zdj (Zab (Zac 7) (Zab (eOp ixD (Zac 4) (Zac 3)) Zag))) (eCB Zrh (Zab (eOp inD (eOp ixD (Zac 4) (Zac 3)) (Zac 6)) Zag))) (gSb (Zac 1) (Zac 2) Znv))
 Zaj))))
 Zaj))
 (Zaf (Zbc (Zac 1))
 Zaj)))))
nonrec def Ze2:FF:=Za4 1 8 Zcn
nonrec def Zds:SF :=
 (Zaf (Zbc (eAn (eCB Zoe (Zab (Zac 0) (Zab (eC (.ty "int")) Zag))) (eAn (eNo (eCB Zoe (Zab (Zac 0) (Zab (eC (.ty "bool")) Zag)))) (eCh leD ltD (eC (.int 0)) (Zac 0) (Zac 1)))))
 Zaj)
nonrec def Zcf:FF:=Za4 2 2 Zds
nonrec def Zee:SF :=
 (Zaf (Zbe 3 (Zdj Zag))
 (Zaf (Zed (Zn8 (Zab (Zac 2) Zag)) (gTp 2 (gCn (gNm 4) (gCn (gNm 5) gNl))) (Zaf (Zbe 6 (eLC (iSq (eSl (Zac 2) (Zfb (Zac 4)) Zge)) [0,1] (tOf (eOp neD (eOp ixD (Zac 1) (eOp Zlh (eCB Zr5 (Zab (Zac 0) Zag)) (eC (.int 1)))) (Zac 2))) (Zac 0)))
 (Zaf (sIf (tOf (eOp neD (Zac 6) (Zdj Zag))) (Zaf (Zbw (eLM Zbg (Zac 3) (Zab (Zac 5) Zag)))
 Zaj) Zaj)
 Zaj)))
 (Zaf (Zbc (eCB Zd0 (Zab (Zac 3) Zag)))
 Zaj)))
nonrec def Zhq:FF:=Za4 3 7 Zee
nonrec def Zc3:SF :=
 (Zaf (sIf (Zmg (tOf (eOp niD (Zac 2) (Zac 0))) (tOf (eOp niD (eUn Zka (Zac 2)) (Zac 1)))) (Zaf (Zbc (eC .non))
 Zaj) Zaj)
 (Zaf (Zbe 3 eDI)
 (Zaf (Zed (iSq (eOp Zb6 (Zac 0) (Zac 1))) (gNm 4) (Zaf (sIf (tOf (eOp neD (eCB Zr5 (Zab (Zac 4) Zag)) (Zac 2))) (Zaf (sIf (tOf (eOp Yfh (eUn Zka (Zac 4)) (Zac 3))) (Zaf (Zbc (eC .non))
 Zaj) Zaj)
 (Zaf (Zsl (eC (.bl true)) (gSb (Zac 3) (Zac 4) Zpq))
 Zaj)) Zaj)
 Zaj))
 (Zaf (Zbc (eCB Zd0 (Zab (eCB Zht (Zab (Zac 3) Zag)) Zag)))
 Zaj))))
nonrec def Zd7:FF:=Za4 3 5 Zc3
nonrec def Zdt:SF :=
 (Zaf (sIf (tOf (eOp eqD (Zac 1) (eC (.str "all")))) (Zaf (sIf (tNo (Zfd (Zap 2 Zcf (Zab (Zac 2) (Zab (eCB Zc7 (Zab (eOp ixD (Zac 0) (eC (.int 1))) Zag)) Zag))))) (Zaf (Zbc (eC .non))
 Zaj) Zaj)
 (Zaf (Zbc (eOp ixD (eOp ixD (Zac 0) (eC (.int 1))) (Zac 2)))
 Zaj)) Zaj)
 (Zaf (sIf (tNo (Zfd (eCB Zoe (Zab (Zac 2) (Zab (eC (.ty "tuple")) Zag))))) (Zaf (Zbc (eC .non))
 Zaj) Zaj)
 (Zaf (Zbe 3 (eC (.int 0)))
 (Zaf (Zed (iSq (Zac 2)) (gNm 4) (Zaf (sIf (Zmg (tNo (Zfd (eCB Zoe (Zab (Zac 4) (Zab (eC (.ty "int")) Zag))))) (Zfd (eCB Zoe (Zab (Zac 4) (Zab (eC (.ty "bool")) Zag))))) (Zaf (Zbc (eC .non))
 Zaj) Zaj)
 (Zaf (sIf (tNo (tOf (eCh ltD leD (Zac 3) (eCB Zr5 (Zab (Zac 4) Zag)) (eCB Zc7 (Zab (eOp ixD (Zac 0) (eC (.int 0))) Zag))))) (Zaf (Zbc (eC .non))
 Zaj) Zaj)
 (Zaf (Zbe 3 (eCB Zr5 (Zab (Zac 4) Zag)))
 Zaj))))
 (Zaf (Zed (iSq (eOp ixD (Zac 0) (eC (.int 1)))) (gNm 5) (Zaf (sIf (tOf (eOp eqD (eLC (iSq (Zac 5)) [2] (tOf (eOp inD (Zac 0) (Zac 1))) (Zac 0)) (Zdj Zag))) (Zaf (Zbc (eC .non))
 Zaj) Zaj)
 Zaj))
 (Zaf (Zbc (Zac 2))
 Zaj))))))
nonrec def Zgr:FF:=Za4 3 6 Zdt
nonrec def Zec:SF :=
 (Zaf (sIf (Zmg (tNo (Zfd (eCB Zoe (Zab (Zac 3) (Zab (eC (.ty "tuple")) Zag))))) (Zmg (tOf (eOp eqD (eCB Zc7 (Zab (Zac 3) Zag)) (eC (.int 0)))) (tNo (Zfd (eCB Zoe (Zab (eOp ixD (Zac 3) (eC (.int 0))) (Zab (eC (.ty "str")) Zag))))))) (Zaf (Zbc (eC .non))
 Zaj) Zaj)
 (Zaf (sIf (tAn (tOf (eOp eqD (eOp ixD (Zac 3) (eC (.int 0))) (eC (.str "less")))) (tAn (tOf (eOp eqD (eCB Zc7 (Zab (Zac 3) Zag)) (eC (.int 2)))) (Zfd (Zap 2 Zcf (Zab (eOp ixD (Zac 3) (eC (.int 1))) (Zab (eCB Zc7 (Zab (Zac 2) Zag)) Zag)))))) (Zaf (Zbc (Zap 3 Zhq (Zab (eOp ixD (Zac 0) (eC (.int 0))) (Zab (Zac 1) (Zab (eOp ixD (Zac 2) (eOp ixD (Zac 3) (eC (.int 1)))) Zag)))))
 Zaj) Zaj)
 (Zaf (sIf (tAn (tOf (eOp eqD (eOp ixD (Zac 3) (eC (.int 0))) (eC (.str "joined")))) (tOf (eOp eqD (eCB Zc7 (Zab (Zac 3) Zag)) (eC (.int 4))))) (Zaf (Zbe 4 (eLC (iR1 (Zab (eCB Zc7 (Zab (eOp ixD (Zac 0) (eC (.int 0))) Zag)) Zag)) [0,1] (tOf (eOp neD (eOp ixD (eOp ixD (Zac 1) (eC (.int 0))) (Zac 0)) (Zac 2))) (eOp Zb6 (Zac 0) (eC (.int 1)))))
 (Zaf (sIf (tOf (eOp inD (eC (.bl false)) (eLC (iSq (eSl (Zac 3) (Zfb (eC (.int 1))) (Zfb (eC (.int 3))))) [2] Zsz (Zap 2 Zcf (Zab (Zac 0) (Zab (eCB Zc7 (Zab (Zac 1) Zag)) Zag)))))) (Zaf (Zbc (eC .non))
 Zaj) Zaj)
 (Zaf (sIf (Zmg (tNo (Zfd (Zap 2 Zcf (Zab (eOp ixD (Zac 3) (eC (.int 3))) (Zab (eOp Zb6 (eCB Zc7 (Zab (eOp ixD (Zac 0) (eC (.int 0))) Zag)) (eC (.int 1))) Zag))))) (tOf (eOp niD (eOp ixD (Zac 3) (eC (.int 3))) (Zac 4)))) (Zaf (Zbc (eC .non))
 Zaj) Zaj)
 (Zaf (Zbc (Zap 3 Zd7 (Zab (eOp ixD (Zac 2) (eOp ixD (Zac 3) (eC (.int 1)))) (Zab (eOp ixD (Zac 2) (eOp ixD (Zac 3) (eC (.int 2)))) (Zab (eOp ixD (Zac 3) (eC (.int 3))) Zag)))))
 Zaj)))) Zaj)
 (Zaf (sIf (tAn (tOf (eOp eqD (eOp ixD (Zac 3) (eC (.int 0))) (eOp ixD (Zdj (Zab (eC (.str "term")) (Zab (eC (.str "row")) Zag))) (eCB Zrh (Zab (eOp eqD (Zac 1) (eC (.str "all"))) Zag))))) (tOf (eOp eqD (eCB Zc7 (Zab (Zac 3) Zag)) (eC (.int 2))))) (Zaf (Zbc (Zap 3 Zgr (Zab (Zac 0) (Zab (Zac 1) (Zab (eOp ixD (Zac 3) (eC (.int 1))) Zag)))))
 Zaj) Zaj)
 (Zaf (Zbc (eC .non))
 Zaj)))))
nonrec def Zh0:FF:=Za4 4 5 Zec
nonrec def Zel:SF :=
 (Zaf (Zbe 3 (Zdj Zag))
 (Zaf (Zed (iSq (eOp ixD (Zac 0) (eC (.int 1)))) (gNm 4) (Zaf (Zbe 5 (eLC (iSq (Zac 4)) [1] (Zfd (Zap 2 Zdu (Zab (Zac 0) (Zab (Zac 1) Zag)))) (Zac 0)))
 (Zaf (sIf (tOf (eOp eqD (eLC (iSq (Zac 5)) [3] (tOf (eOp inD (Zac 0) (Zac 1))) (Zac 0)) (Zdj Zag))) (Zaf (Zbw (eLM Zbg (Zac 3) (Zab (eOp ixD (Zac 5) (eOp Zfc (eOp ixD (Zac 2) (eC (.int 1))) (eCB Zc7 (Zab (Zac 5) Zag)))) Zag)))
 Zaj) Zaj)
 Zaj)))
 (Zaf (Zed (Zn8 (Zab (Zac 1) Zag)) (gTp 2 (gCn (gNm 6) (gCn (gNm 7) gNl))) (Zaf (Zbe 8 (eOp ixD (Zdj (Zab (eOp Zlh (eOp Zlh (eC (.int 0)) (Zac 6)) (eC (.int 1))) (Zab (eOp Zb6 (Zac 6) (eC (.int 1))) Zag))) (eCB Zrh (Zab (Zac 7) Zag))))
 (Zaf (sIf (tAn (tOf (eOp eqD (eOp Zfc (eOp Zl2 (eOp ixD (Zac 2) (eC (.int 2))) (eOp Zb6 (Zac 6) (eC (.int 1)))) (eC (.int 3))) (eC (.int 0)))) (tOf (eOp niD (Zac 8) (Zac 3)))) (Zaf (Zbw (eLM Zbg (Zac 3) (Zab (Zac 8) Zag)))
 Zaj) Zaj)
 Zaj)))
 (Zaf (Zbc (eCB Zd0 (Zab (eCB Zk4 (Zab (Zac 3) Zag)) Zag)))
 Zaj))))
nonrec def Zhl:FF:=Za4 3 9 Zel
nonrec def Zbs:SF :=
 (Zaf (sIf (tAn (tOf (eOp eqD (eOp Zfc (eOp ixD (Zac 4) (eC (.int 0))) (eC (.int 4))) (eC (.int 0)))) (tOf (eOp neD (Zac 2) (Zdj Zag)))) (Zaf (Zbc (Zdk (Zab (eC (.str "less")) (Zab (eOp Zfc (eOp ixD (Zac 4) (eC (.int 1))) (eCB Zc7 (Zab (Zac 2) Zag))) Zag))))
 Zaj) Zaj)
 (Zaf (sIf (tAn (tOf (eOp ltD (eOp Zfc (eOp ixD (Zac 4) (eC (.int 0))) (eC (.int 4))) (eC (.int 3)))) (tOf (eOp neD (Zac 2) (Zdj Zag)))) (Zaf (Zbe 5 (eLC (iR1 (Zab (eCB Zc7 (Zab (eOp ixD (Zac 0) (eC (.int 0))) Zag)) Zag)) [0,1] (tOf (eOp neD (eOp ixD (eOp ixD (Zac 1) (eC (.int 0))) (Zac 0)) (Zac 2))) (eOp Zb6 (Zac 0) (eC (.int 1)))))
 (Zaf (Zed (iR1 (Zab (eCB Zc7 (Zab (Zac 2) Zag)) Zag)) (gNm 6) (Zaf (Zbe 7 (eOp Zfc (eOp Zb6 (eOp ixD (Zac 4) (eC (.int 1))) (Zac 6)) (eCB Zc7 (Zab (Zac 2) Zag))))
 (Zaf (Zbe 8 (eOp Zfc (eOp Zb6 (eOp ixD (Zac 4) (eC (.int 2))) (eOp Zqd (eC (.int 3)) (Zac 6))) (eCB Zc7 (Zab (Zac 2) Zag))))
 (Zaf (Zed (iSq (Zac 5)) (gNm 9) (Zaf (sIf (tOf (eOp Yb6 (Zap 3 Zd7 (Zab (eOp ixD (Zac 2) (Zac 7)) (Zab (eOp ixD (Zac 2) (Zac 8)) (Zab (Zac 9) Zag)))) (eC .non))) (Zaf (Zbc (Zdk (Zab (eC (.str "joined")) (Zab (Zac 7) (Zab (Zac 8) (Zab (Zac 9) Zag))))))
 Zaj) Zaj)
 Zaj))
 Zaj))))
 Zaj)) Zaj)
 (Zaf (sIf (tOf (eOp eqD (Zac 1) (eC (.str "all")))) (Zaf (sIf (tOf (eOp eqD (eOp ixD (Zac 0) (eC (.int 1))) (Zdk Zag))) (Zaf (Zbc (eC .non))
 Zaj) Zaj)
 (Zaf (Zbc (Zdk (Zab (eC (.str "row")) (Zab (eOp Zfc (eOp ixD (Zac 4) (eC (.int 3))) (eCB Zc7 (Zab (eOp ixD (Zac 0) (eC (.int 1))) Zag))) Zag))))
 Zaj)) Zaj)
 (Zaf (sIf (tOf (eOp eqD (Zac 3) (Zdj Zag))) (Zaf (Zbc (eC .non))
 Zaj) Zaj)
 (Zaf (Zbc (Zdk (Zab (eC (.str "term")) (Zab (Zap 3 Zhl (Zab (Zac 0) (Zab (eOp ixD (Zac 3) (eOp Zfc (eOp ixD (Zac 4) (eC (.int 4))) (eCB Zc7 (Zab (Zac 3) Zag)))) (Zab (eSl (Zac 4) (Zfb (eC (.int 4))) Zge) Zag)))) Zag))))
 Zaj)))))
nonrec def Zdf:FF:=Za4 5 10 Zbs
nonrec def Zbm:SF :=
 (Zaf (Zbe 5 (Zdj Zag))
 (Zaf (Zbe 6 (Zdj Zag))
 (Zaf (Zbe 7 (eLC (iSq (Zap 1 Zcv (Zab (eCB Zc7 (Zab (eOp ixD (Zac 0) (eC (.int 0))) Zag)) Zag))) [0] (tNo (Zfd (Zap 2 Zcs (Zab (eOp ixD (Zac 1) (eC (.int 1))) (Zab (Zac 0) Zag))))) (Zac 0)))
 (Zaf (Zed (iR1 (Zab (Zac 4) Zag)) (gNm 8) (Zaf (Zbe 9 (eSl (Zap 2 Zch (Zab (Zap 2 Zd3 (Zab (Zac 2) (Zab (eOp Zb6 (Zac 3) (Zac 8)) Zag))) (Zab (eC (.int 24)) Zag))) (Zfb (eC (.int 14))) Zge))
 (Zaf (Zbe 10 (Zap 5 Zdf (Zab (Zac 0) (Zab (Zac 1) (Zab (Zac 6) (Zab (Zac 7) (Zab (Zac 9) Zag)))))))
 (Zaf (sIf (tOf (eOp Yb6 (Zac 10) (eC .non))) (Zaf (Zbw (eLM Zbg (Zac 5) (Zab (Zac 10) Zag)))
 (Zaf (Zbw (eLM Zbg (Zac 6) (Zab (Zap 4 Zh0 (Zab (Zac 0) (Zab (Zac 1) (Zab (Zac 6) (Zab (Zac 10) Zag))))) Zag)))
 Zaj)) Zaj)
 Zaj))))
 (Zaf (Zbc (Zac 5))
 Zaj)))))
nonrec def Zct:FF:=Za4 5 11 Zbm
nonrec def Zdc:SF :=
 (Zaf (Zbe 2 (Zdj Zag))
 (Zaf (Zed (iSq (Zac 0)) (gNm 3) (Zaf (sIf (tOf (eOp eqD (eOp ixD (Zac 3) (eC (.int 0))) (eC (.str "less")))) (Zaf (Zbw (eLM Zbg (Zac 2) (Zab (Zdk (Zab (eC (.str "less")) (Zab (eOp Zb6 (eOp ixD (Zac 3) (eC (.int 1))) (Zac 1)) Zag))) Zag)))
 Zaj) (Zaf (sIf (tOf (eOp eqD (eOp ixD (Zac 3) (eC (.int 0))) (eC (.str "joined")))) (Zaf (Zbw (eLM Zbg (Zac 2) (Zab (Zdk (Zab (eC (.str "joined")) (Zab (eOp Zb6 (eOp ixD (Zac 3) (eC (.int 1))) (Zac 1)) (Zab (eOp Zb6 (eOp ixD (Zac 3) (eC (.int 2))) (Zac 1)) (Zab (eOp ixD (Zac 3) (eC (.int 3))) Zag))))) Zag)))
 Zaj) (Zaf (Zbw (eLM Zbg (Zac 2) (Zab (Zac 3) Zag)))
 Zaj))
 Zaj))
 Zaj))
 (Zaf (Zbc (Zac 2))
 Zaj)))
nonrec def Zfu:FF:=Za4 2 4 Zdc
nonrec def Zc9:SF :=
 (Zaf (Zbe 2 (Zdj (Zab (Zdk Zag) Zag)))
 (Zaf (Zed (iSq (eOp ixD (Zac 0) (eC (.int 0)))) (gNm 3) (Zaf (Zbe 4 (Zdj Zag))
 (Zaf (Zed (iSq (Zac 2)) (gNm 5) (Zaf (sIf (tOf (eOp eqD (Zac 3) (eC (.str "some")))) (Zaf (Zbe 6 (Zap 3 Zhr (Zab (Zac 0) (Zab (Zac 1) (Zab (Zac 5) Zag)))))
 (Zaf (sIf (tNo (Zfd (eCB Zoe (Zab (Zac 6) (Zab (eC (.ty "bool")) Zag))))) (Zaf (Zbc (eC (.bl false)))
 Zaj) Zaj)
 (Zaf (Zbw (eLM Zbg (Zac 4) (Zab (eOp Zb6 (Zac 5) (Zdk (Zab (Zac 6) Zag))) Zag)))
 Zaj))) (Zaf (Zbe 4 (eOp Zb6 (Zac 4) (Zdj (Zab (eOp Zb6 (Zac 5) (Zdk (Zab (eC (.bl false)) Zag))) (Zab (eOp Zb6 (Zac 5) (Zdk (Zab (eC (.bl true)) Zag))) Zag)))))
 Zaj))
 Zaj))
 (Zaf (Zbe 2 (Zac 4))
 Zaj))))
 (Zaf (Zbc (eOp eqD (eLC (iSq (Zac 2)) [0] (tOf (eOp neD (Zap 2 Zcs (Zab (eOp ixD (Zac 1) (eC (.int 1))) (Zab (Zac 0) Zag))) (eC (.bl false)))) (Zac 0)) (Zdj Zag)))
 Zaj)))
nonrec def Zfx:FF:=Za4 2 7 Zc9
nonrec def Zfv:SF :=
 (Zaf (Zsl (Zac 0) (gTp 2 (gCn (gNm 3) (gCn (gNm 4) gNl))))
 (Zaf (Zbe 1 (eCB Zd0 (Zab (eLC (iSq (Zac 3)) [] Zsz (eOp ixD (Zdj (Zab (eC (.str "all")) (Zab (eC (.str "some")) Zag))) (eCB Zrh (Zab (eOp eqD (Zac 0) (eC (.str "all"))) Zag)))) Zag)))
 (Zaf (Zed (iSq (Zdj (Zab (Zac 0) (Zab (Zdk (Zab (Zac 1) (Zab (Zac 4) Zag))) (Zab (Zdk (Zab (Zac 3) (Zab (eSl (Zac 4) Zge (Zfb (eOp Zl2 (eCB Zc7 (Zab (Zac 4) Zag)) (eC (.int 2))))) Zag))) (Zab (Zdk (Zab (Zac 1) (Zab (eSl (Zac 4) (Zfb (eOp Zl2 (eCB Zc7 (Zab (Zac 4) Zag)) (eC (.int 2)))) Zge) Zag))) Zag)))))) (gNm 2) (Zaf (sIf (tOf (eOp eqD (eOp Zf6 (Zap 1 Ze2 (Zab (Zac 2) Zag)) (Zdk Zag)) (eC (.str "some")))) (Zaf (Zbc (Zac 2))
 Zaj) Zaj)
 Zaj))
 (Zaf (Zbc (Zdk (Zab (Zac 3) (Zab (Zdk Zag) Zag))))
 Zaj))))
nonrec def Zju:FF:=Za4 1 5 Zfv
nonrec def Zbu:SF :=
 (Zaf (Zbe 3 (Zap 2 Zea (Zab (eOp ixD (Zac 2) (eC (.int 1))) (Zab (Zac 1) Zag))))
 (Zaf (Zbc (Zdk (Zab (Zdk (Zab (eC (.str "term")) (Zab (Zac 3) Zag))) (Zab (Zac 3) Zag))))
 Zaj))
nonrec def Zdh:D->FF:=Yb9 2 4 Zbu
nonrec def Za0 (F1 F2:FF):SF :=
 (Zaf (sIf (tOf (eOp eqD (eCB Zsy (Zab (Zac 1) Zag)) (eC (.int 0)))) (Zaf (Zbc (Zdk (Zab (eC (.str "some")) (Zab (Zdk (Zab (eC (.str "kept")) Zag)) Zag))))
 Zaj) Zaj)
 (Zaf (Zbe 3 (Zap 2 Zdi (Zab (Zac 0) (Zab (Zac 1) Zag))))
 (Zaf (sIf (tOf (eOp Yb6 (Zac 3) (eC .non))) (Zaf (Zbc (Zdk (Zab (eC (.str "all")) (Zab (Zdk (Zab (eC (.str "lost")) (Zab (Zac 3) Zag))) Zag))))
 Zaj) Zaj)
 (Zaf (Zbc (Zap 3 F2 (Zab (Zac 0) (Zab (Zac 1) (Zab (Zac 2) Zag)))))
 Zaj))))
nonrec def Zar (F1 F2:FF):SF :=
 (Zaf (Zbe 3 (eOp ixD (Zac 0) (Zac 2)))
 (Zaf (Zbe 4 (Zdj Zag))
 (Zaf (Zed (iSq (eC k_TRUTHS)) (gNm 5) (Zaf (Zbe 6 (Zap 3 F1 (Zab (Zac 0) (Zab (Zap 3 Zdl (Zab (Zac 1) (Zab (eOp Zb6 (Zac 2) (eC (.int 1))) (Zab (Zac 5) Zag)))) (Zab (eOp Zb6 (Zac 2) (eC (.int 1))) Zag)))))
 (Zaf (sIf (tOf (eOp eqD (eOp ixD (Zac 6) (eC (.int 0))) (Zac 3))) (Zaf (Zbc (Zdk (Zab (Zac 3) (Zab (Zdk (Zab (eC (.str "pick")) (Zab (Zac 5) (Zab (eOp ixD (Zac 6) (eC (.int 1))) Zag)))) Zag))))
 Zaj) Zaj)
 (Zaf (Zbw (eLM Zbg (Zac 4) (Zab (eOp ixD (Zac 6) (eC (.int 1))) Zag)))
 Zaj))))
 (Zaf (Zbc (Zdk (Zab (Zap 1 Zci (Zab (Zac 3) Zag)) (Zab (Zdk (Zab (eC (.str "each")) (Zab (eOp ixD (Zac 4) (eC (.int 0))) (Zab (eOp ixD (Zac 4) (eC (.int 1))) Zag)))) Zag))))
 Zaj))))
nonrec def Zl7:FF:=(Zei 3 4 3 7 Za0 Zar 22).1
nonrec def Zm2:SF :=
 (Zaf (Zbc (Zap 3 Zl7 (Zab (eOp ixD (Zac 0) (eC (.int 0))) (Zab (Zap 1 Zcp (Zab (eOp ixD (Zac 0) (eC (.int 1))) Zag)) (Zab (eC (.int 0)) Zag)))))
 Zaj)
nonrec def Zv5:FF:=Za4 1 1 Zm2
nonrec def Zau (F1 F2:FF):SF :=
 (Zaf (sIf (tOf (eOp eqD (eOp ixD (Zac 4) (eC (.int 0))) (eC (.str "pick")))) (Zaf (Zbw (Zap 6 F1 (Zab (Zac 0) (Zab (Zac 1) (Zab (Zac 2) (Zab (Zac 3) (Zab (eOp ixD (Zac 4) (eC (.int 2))) (Zab (eOp Zb6 (Zac 5) (Zdk (Zab (eOp ixD (Zac 4) (eC (.int 1))) Zag))) Zag))))))))
 Zaj) (Zaf (sIf (tOf (eOp eqD (eOp ixD (Zac 4) (eC (.int 0))) (eC (.str "each")))) (Zaf (Zbw (Zap 6 F2 (Zab (Zac 0) (Zab (Zac 1) (Zab (Zac 2) (Zab (Zac 3) (Zab (Zac 4) (Zab (Zac 5) Zag))))))))
 Zaj) (Zaf (Zbe 6 (Zng 2 2 "term_paper" "claim" Zdh (Zab (Zac 4) (Zab (Zac 5) Zag))))
 (Zaf (Zbw (Zap 5 Zfz (Zab (Zac 0) (Zab (Zac 1) (Zab (Zac 3) (Zab (eOp ixD (Zac 6) (eC (.int 0))) (Zab (eOp ixD (Zac 6) (eC (.int 1))) Zag)))))))
 Zaj)))
 Zaj))
 Zaj)
nonrec def Zaw (F1 F2:FF):SF :=
 (Zaf (Zbe 6 (eOp Zb6 (eCB Zc7 (Zab (Zac 5) Zag)) (eC (.int 1))))
 (Zaf (Zbe 7 eDI)
 (Zaf (Zed (Zvo (Zab (eC k_TRUTHS) (Zab (eSl (Zac 4) (Zfb (eC (.int 1))) Zge) Zag))) (gTp 2 (gCn (gNm 10) (gCn (gNm 11) gNl))) (Zaf (Zbw (Zap 6 F1 (Zab (Zac 0) (Zab (Zac 1) (Zab (Zac 2) (Zab (Zac 3) (Zab (Zac 11) (Zab (eOp Zb6 (Zac 5) (Zdk (Zab (Zac 10) Zag))) Zag))))))))
 (Zaf (Zbe 12 (eOp ixD (eOp ixD (Zac 3) (eUn Zka (eC (.int 1)))) (eC (.int 1))))
 (Zaf (sIf (tAn (tOf (eOp niD (Zac 6) (Zac 12))) (tOf (eOp niD (eUn Zka (Zac 6)) (Zac 12)))) (Zaf Yav
 Zaj) Zaj)
 (Zaf (Zsl (eOp Zlh (eCB Zc7 (Zab (Zac 3) Zag)) (eC (.int 1))) (gSb (Zac 7) (eOp ixD (Zac 12) (eUn Zka (eC (.int 1)))) Zpq))
 Zaj)))))
 (Zaf (Zbe 8 (eOp Ztd (Zac 7) (Zac 6)))
 (Zaf (Zbe 9 (eOp Ztd (Zac 7) (eUn Zka (Zac 6))))
 (Zaf (Zbw (Zap 5 Zfz (Zab (Zac 0) (Zab (Zac 1) (Zab (Zac 3) (Zab (Zdk (Zab (eC (.str "joined")) (Zab (Zac 8) (Zab (Zac 9) (Zab (Zac 6) Zag))))) (Zab (Zap 3 Zik (Zab (eOp ixD (eOp ixD (Zac 3) (Zac 8)) (eC (.int 1))) (Zab (eOp ixD (eOp ixD (Zac 3) (Zac 9)) (eC (.int 1))) (Zab (Zac 6) Zag)))) Zag)))))))
 Zaj))))))
nonrec def Zq8:FF:=(Zei 6 7 6 13 Zau Zaw 22).1
nonrec def Zjp:SF :=
 (Zaf (Zbe 3 (Zap 1 Zv5 (Zab (Zac 0) Zag)))
 (Zaf (sIf (tOf (eOp neD (eOp ixD (Zac 3) (eC (.int 0))) (Zac 1))) (Zaf sErr
 Zaj) Zaj)
 (Zaf (Zbe 4 (Zdj Zag))
 (Zaf (Zbw (Zap 6 Zq8 (Zab (eOp ixD (Zac 0) (eC (.int 0))) (Zab (Zac 1) (Zab (Zac 2) (Zab (Zac 4) (Zab (eOp ixD (Zac 3) (eC (.int 1))) (Zab (Zdk Zag) Zag))))))))
 (Zaf (Zbc (Yez (iSq (Zac 4)) [] Zsz (Zac 0)))
 Zaj)))))
nonrec def Zov:FF:=Za4 3 5 Zjp
nonrec def Zc4:SF :=
 (Zaf (sDef 0 1 0 "term_paper" "claim")
 (Zaf (Zbc (Zap 3 Zov (Zab (Zac 0) (Zab (eC (.str "some")) (Zab (Zac 1) Zag)))))
 Zaj))
nonrec def Zfp:FF:=Za4 1 2 Zc4
nonrec def Ztm:SF :=
 (Zaf (Zbe 1 (Zap 1 Zju (Zab (Zap 2 Zgq (Zab (Zac 0) (Zab (eC (.int 6)) Zag))) Zag)))
 (Zaf (Zbe 2 (eSl (Zap 2 Zch (Zab (Zap 2 Zd3 (Zab (Zac 0) (Zab (eC (.int 1)) Zag))) (Zab (eC (.int 40)) Zag))) (Zfb (eC (.int 28))) Zge))
 (Zaf (Zbe 3 (Zap 5 Zct (Zab (Zac 1) (Zab (eC (.str "some")) (Zab (Zac 0) (Zab (eC (.int 2)) (Zab (eOp Zfc (eOp ixD (Zac 2) (eC (.int 0))) (eC (.int 9))) Zag)))))))
 (Zaf (Zbe 4 (Zap 1 Zfp (Zab (Zac 1) Zag)))
 (Zaf (Zed (iSq (Zdj (Zab (Zac 4) (Zab (eOp Zb6 (Zac 3) (Zap 2 Zfu (Zab (Zac 4) (Zab (eCB Zc7 (Zab (Zac 3) Zag)) Zag)))) Zag)))) (gNm 5) (Zaf (Zbe 6 (eCB Zo1 (Zab (Zac 5) Zag)))
 (Zaf (sIf (Zmg (tNo (Zfd (Zap 2 Zfx (Zab (Zac 1) (Zab (Zac 5) Zag))))) (tOf (eOp neD (Zac 5) (Zac 6)))) (Zaf (Zbc (eC (.bl false)))
 Zaj) Zaj)
 Zaj)))
 (Zaf (Zbc (eC (.bl true)))
 Zaj))))))
nonrec def Zrx:FF:=Za4 1 7 Ztm
end K08
set_option maxHeartbeats 4000000
namespace K08
open PySem L2 DL LH
nonrec def opn (bs:List Bool) (l:Int):Bool:=decide ((bs.length:Int)<Zan l)
nonrec def rig (bs:List Bool) (l:Int):Bool:=match bs[(Zan l - 1).toNat]? with
 | some b=>b==decide (0<l)
 | none=>false
nonrec def kept (bs:List Bool) (ls:List Int):Bool:=ls.any (rig bs)
nonrec def rest (bs:List Bool) (ls:List Int):List Int:=ls.filter (opn bs)
nonrec def Zfn (b:Int):List Int->List Int
 | []=>[]
 | l::r=>if Zan l=b+1 then r else l::r
nonrec def Zj5 (b:Int) (t:Bool):List Int->Bool
 | []=>false
 | l::_=>decide (Zan l=b+1)&&(t==decide (0<l))
theorem Zgs {m:Int} (bs:List Bool):∀ (ls:List Int) (last:Int),Up m last ls->(bs.length:Int)<=last->rest bs ls=ls/\kept bs ls=false
 | [],_,_,_=>⟨rfl,rfl⟩
 | l::r,last,u,h=>by
  obtain⟨h1,h2,h3⟩:=u
  obtain⟨a,b⟩:=Zgs bs r (Zan l) h3 (by omega)
  have o:opn bs l=true:=decide_eq_true (by omega)
  have g:rig bs l=false:=by
   unfold rig
   rw[Wby (by omega)]
  refine⟨?_,?_⟩
  ·unfold rest; rw[Wbs o]; exact congrArg _ a
  ·unfold kept; rw[Wdb,g]; exact b
theorem Ybn {bs:List Bool} {t:Bool} {l:Int} (h:Zan l<=bs.length) (h0:0<Zan l):rig (bs++[t]) l=rig bs l:=by
 unfold rig
 rw[Xh (by omega)]
theorem Zgo {m:Int} (bs:List Bool) (t:Bool):∀ (ls:List Int) (last:Int),0<=last->Up m last ls->rest (bs++[t]) ls=Zfn bs.length (rest bs ls)/\kept (bs++[t]) ls=(kept bs ls||Zj5 bs.length t (rest bs ls))
 | [],_,_,_=>⟨rfl,rfl⟩
 | l::r,last,h0,u=>by
  obtain⟨h1,h2,h3⟩:=u
  have la:(((bs++[t]).length:Nat):Int)=bs.length+1:=by simp
  by_cases c1:Zan l<=bs.length
  ·obtain⟨a,b⟩:=Zgo bs t r (Zan l) (by omega) h3
   have o1:opn bs l=false:=decide_eq_false (by omega)
   have o2:opn (bs++[t]) l=false:=decide_eq_false (by rw[la]; omega)
   have e:rest bs (l::r)=rest bs r:=by unfold rest; rw[Wba (by rw[o1]; simp)]
   have e':rest (bs++[t]) (l::r)=rest (bs++[t]) r:=by unfold rest; rw[Wba (by rw[o2]; simp)]
   rw[e,e']
   refine⟨a,?_⟩
   have k:∀ cs,kept cs (l::r)=(rig cs l||kept cs r):=fun cs=>by unfold kept; rw[Wdb]
   rw[k,k,Ybn c1 (by omega),b,Bool.or_assoc]
  ·have o1:opn bs l=true:=decide_eq_true (by omega)
   obtain⟨a1,a2⟩:=Zgs bs r (Zan l) h3 (by omega)
   have e:rest bs (l::r)=l::r:=by unfold rest; rw[Wbs o1]; exact congrArg _ a1
   have g1:rig bs l=false:=by unfold rig; rw[Wby (by omega)]
   have k:∀ cs,kept cs (l::r)=(rig cs l||kept cs r):=fun cs=>by unfold kept; rw[Wdb]
   by_cases c2:Zan l=bs.length+1
   ·obtain⟨b1,b2⟩:=Zgs (bs++[t]) r (Zan l) h3 (by rw[la]; omega)
    have o2:opn (bs++[t]) l=false:=decide_eq_false (by rw[la]; omega)
    have e':rest (bs++[t]) (l::r)=r:=by unfold rest; rw[Wba (by rw[o2]; simp)]; exact b1
    have g2:rig (bs++[t]) l=(t==decide (0<l)):=by
     unfold rig
     have:(Zan l - 1).toNat=bs.length:=by omega
     rw[this]; simp
    rw[e,e',k,k,g1,g2,a2,b2]
    refine⟨by simp[Zfn,c2],by simp[Zj5,c2]⟩
   ·obtain⟨b1,b2⟩:=Zgs (bs++[t]) (l::r) (Zan l - 1) ⟨by omega,h2,h3⟩ (by rw[la]; omega)
    rw[e,b1,k bs,g1,a2,b2]
    refine⟨by simp[Zfn,c2],by simp[Zj5,c2]⟩
theorem Zp6:∀ ls:List Int,Znc (ls.map .int)=some ls
 | []=>rfl
 | l::r=>by simp[Znc,nkOf,Zp6 r]
theorem Ze6 (ls:List Int):nk (Zaz ls)=some ls:=Zp6 ls
theorem Zw1 {kvs:List (D×D)} {kd vd:D} {k k':List Int} (h:nk kd=some k) (h0:Zbk kvs k=none):(Zbk (Zof kvs kd k vd) k').isSome=((Zbk kvs k').isSome||decide (k'=k)):=by
 have e:Zof kvs kd k vd=kvs++[(kd,vd)]:=by unfold Zof; rw[h0]; rfl
 rw[e]
 unfold Zbk
 rw[List.find?_append]
 cases q:kvs.find? (fun p=>nk p.1==some k') with
 | some p=>simp
 | none =>
  by_cases c:k'=k
  ·subst c; simp[h]
  ·have:(nk kd==some k')=false:=by rw[h]; simp; exact fun z=>c z.symm
   simp[Wcd,this,c]
structure DR (rss:List (List Int)) (bs:List Bool) (kvs:List (D×D)):Prop where
 key:∀ p∈kvs,∃ ls∈rss,kept bs ls=false/\p.1=Zaz (rest bs ls)
 all:∀ ls∈rss,kept bs ls=false->(Zbk kvs (rest bs ls)).isSome=true
 len:kvs.length<=rss.length
 val:∀ p∈kvs,∃ (i:Nat) (ls:List Int),rss[i]? = some ls/\kept bs ls=false/\p=(Zaz (rest bs ls),.int i)
structure Fz (H H':HD):Prop where
 old:∀ (m:Nat) (o:DO),H[m]? = some o->H'[m]? = some o\/∃ kvs,o=.dic kvs false/\H'[m]? = some (.dic kvs true)
 len:H.length<=H'.length
theorem Fz.app {H:HD} (L:HD):Fz H (H++L):=⟨fun m o q=>.inl (by
 have:m<H.length:=(Xc.mp q).1
 rw[Xh this]; exact q),by simp⟩
theorem dm {g:D->List D->HD->Option (D×HD)} {fo:EF} {f:AF} {σ:SD} {H H1 H2:HD} {o:D} {ds:List D} {r:Option (D×HD)} (h1:fo σ H=some (o,H1)) (hd:Zpc o H1=true) (h2:f σ H1=some (ds,H2)) (h3:g o ds H2=r):eDM g fo f σ H=r:=by
 unfold eDM; rw[h1]; simp only[Zb]; rw[if_pos hd,h2]; exact h3
theorem ex {f:EF} {σ:SD} {H H1:HD} {d:D} (h:f σ H=some (d,H1)):Zbw f σ H=some (.nx,σ,H1):=by unfold Zbw; rw[h]; rfl
nonrec def Zh9 (acc:List (D×D)) (k:List Int) (v:D):List (D×D):=if (Zbk acc k).isSome=true then acc else acc++[(Zaz k,v)]
theorem Zok {q:Nat} {acc:List (D×D)} {k:List Int} {v:D} {H:HD} (h:H[q]? = some (.dic acc false)) (hl:acc.length<=100000):∃ z,Zj9 (.ref q) [Zaz k,v] H=some (z,H.set q (.dic (Zh9 acc k v) false)):=by
 have sz:acc.length<sizeLine:=by rw[Uz]; omega
 unfold Zj9
 simp only[h,Ze6,Zb,if_pos sz]
 cases e:Zbk acc k with
 | some z =>
  refine⟨z,?_⟩
  have:Zh9 acc k v=acc:=by unfold Zh9; rw[e]; rfl
  rw[this]
  obtain⟨h1,h2⟩:=Xc.mp h
  rw[<- h2,Wcm h1]
 | none =>
  refine⟨v,?_⟩
  have e1:Zof acc (Zaz k) k v=acc++[(Zaz k,v)]:=by unfold Zof; rw[e]; rfl
  have e2:Zh9 acc k v=acc++[(Zaz k,v)]:=by unfold Zh9; rw[e]; rfl
  rw[e1,e2]
theorem Zig {acc:List (D×D)} {k k':List Int} {v:D}:(Zbk (Zh9 acc k v) k').isSome=((Zbk acc k').isSome||decide (k'=k)):=by
 unfold Zh9
 cases e:Zbk acc k with
 | some z =>
  rw[if_pos (by simp)]
  by_cases c:k'=k
  ·subst c; rw[e]; rfl
  ·simp[c]
 | none =>
  have:=Zw1 (kvs:=acc) (kd:=Zaz k) (vd:=v) (k:=k) (k':=k') (Ze6 k) e
  have e1:Zof acc (Zaz k) k v=acc++[(Zaz k,v)]:=by unfold Zof; rw[e]; rfl
  rw[e1] at this
  rw[if_neg (by simp)]; exact this
theorem Zvy (acc:List (D×D)) (k:List Int) (v:D):(Zh9 acc k v).length<=acc.length+1:=by unfold Zh9; split<;>simp
theorem Zvq {acc:List (D×D)} {k:List Int} {v:D} {p:D×D} (h:p∈Zh9 acc k v):p∈acc\/p.1=Zaz k:=by
 unfold Zh9 at h
 split at h
 ·exact .inl h
 ·rcases Xm.mp h with h | h
  ·exact .inl h
  ·simp at h; subst h; exact .inr rfl
theorem Zqu {acc:List (D×D)} {k:List Int} {v:D} {p:D×D} (h:p∈Zh9 acc k v):p∈acc\/p=(Zaz k,v):=by
 unfold Zh9 at h
 split at h
 ·exact .inl h
 ·rcases Xm.mp h with h | h
  ·exact .inl h
  ·simp at h; subst h; exact .inr rfl
nonrec abbrev fb:SF:=(Zaf (Zbw (eDM Zj9 (Zac 1) (Zab (Zac 3) (Zab (Zac 2) Zag)))) Zaj)
theorem Zky {q:Nat} {r:D}:∀ (rss:List (List Int)) (c:Int) (acc:List (D×D)) (H:HD) (z2 z3:Option D),H[q]? = some (.dic acc false)->acc.length+rss.length<=100000 ->
  ∃ (acc':List (D×D)) (z2' z3':Option D),Zif [] (gTp 2 (gCn (gNm 2) (gCn (gNm 3) gNl))) fb (Zck c (rss.map Zaz)) [some r,some (.ref q),z2,z3] H=some (.nx,[some r,some (.ref q),z2',z3'],H.set q (.dic acc' false)) /\
   (∀ p∈acc',p∈acc\/∃ ls∈rss,p.1=Zaz ls)/\(∀ k,(Zbk acc k).isSome=true->(Zbk acc' k).isSome=true)/\(∀ ls∈rss,(Zbk acc' ls).isSome=true)/\acc'.length<=acc.length+rss.length/\(∀ p∈acc',p∈acc\/∃ (i:Nat) (ls:List Int),rss[i]? = some ls/\p=(Zaz ls,.int (c+i)))
 | [],c,acc,H,z2,z3,hq,_=>by
  obtain⟨h1,h2⟩:=Xc.mp hq
  refine⟨acc,z2,z3,?_,fun p hp=>.inl hp,fun _ h=>h,by simp,by simp,fun p hp=>.inl hp⟩
  rw[Wdt,Zck,Zif,if_pos Zy7,<- h2,Wcm h1]
 | ls::rss,c,acc,H,z2,z3,hq,hl=>by
  rw[Xl,Zck,Zif,if_pos Zy7]
  simp only[gTp,Wee,Wbu,gCn,gNm,gNl,List.set,Zb,if_true,Wep,Nat.reduceAdd]
  obtain⟨z,es⟩:=Zok (k:=ls) (v:=.int c) hq (by omega)
  have lt:=(Xc.mp hq).1
  have st:fb [some r,some (.ref q),some (.int c),some (Zaz ls)] H=some (.nx,[some r,some (.ref q),some (.int c),some (Zaz ls)],H.set q (.dic (Zh9 acc ls (.int c)) false)) :=
   (Zd2 (ex (dm (vr rfl) (by simp[Zpc,hq]) (ac (vr rfl) (ac (vr rfl) an)) es))).trans rfl
  rw[st]
  simp only[Zb]
  have al:=Zvy acc ls (.int c)
  obtain⟨acc',z2',z3',e,a1,a2,a3,a4,a5⟩:=Zky (q:=q) (r:=r) rss (c+1) (Zh9 acc ls (.int c)) (H.set q (.dic (Zh9 acc ls (.int c)) false)) (some (.int c)) (some (Zaz ls)) (by rw[Wbc lt]) (by simp at hl ⊢; omega)
  refine⟨acc',z2',z3',by rw[e,List.set_set],fun p hp=>?_,fun k hk=>a2 k (by rw[Zig,hk]; rfl),fun l hl'=>?_,by omega,fun p hp=>?_⟩
  ·rcases a1 p hp with h | ⟨l,h1,h2⟩
   ·rcases Zvq h with h | h
    ·exact .inl h
    ·exact .inr ⟨ls,by simp,h⟩
   ·exact .inr ⟨l,by simp[h1],h2⟩
  ·rcases Xj.mp hl' with rfl | hl'
   ·exact a2 _ (by rw[Zig]; simp)
   ·exact a3 l hl'
  ·rcases a5 p hp with h | ⟨i,l,h1,h2⟩
   ·rcases Zqu h with h | h
    ·exact .inl h
    ·exact .inr ⟨0,ls,rfl,by rw[h]; simp⟩
   ·exact .inr ⟨i+1,l,by simpa using h1,by rw[h2]; simp; omega⟩
theorem Zxx {rss:List (List Int)} {m:Int} (hu:∀ ls∈rss,Up m 0 ls) (hl:rss.length<=1000) (H:HD) :
  ∃ (kvs:List (D×D)) (H':HD) (q:Nat),Zcp [.tup (rss.map Zaz)] H=some (.ref q,H')/\H'[q]? = some (.dic kvs false)/\DR rss [] kvs/\Fz H H':=by
 have s1:Zbe 1 eDN [some (.tup (rss.map Zaz)),none,none,none] H=some (.nx,[some (.tup (rss.map Zaz)),some (.ref H.length),none,none],H++[.dic [] false]):=rfl
 obtain⟨kvs,z2,z3,e,a1,a2,a3,a4,a5⟩:=Zky (q:=H.length) (r:=.tup (rss.map Zaz)) rss 0 [] (H++[.dic [] false]) none none (by simp) (by simp; omega)
 have e1:Zed (Zn8 (Zab (Zac 0) Zag)) (gTp 2 (gCn (gNm 2) (gCn (gNm 3) gNl))) fb [some (.tup (rss.map Zaz)),some (.ref H.length),none,none] (H++[.dic [] false])=some (.nx,[some (.tup (rss.map Zaz)),some (.ref H.length),z2,z3],(H++[DO.dic [] false]).set H.length (DO.dic kvs false)):=by
  unfold Zed Zn8
  rw[ac (vr rfl) an]
  exact e
 have es:(H++[DO.dic [] false]).set H.length (.dic kvs false)=H++[.dic kvs false]:=by simp
 rw[es] at e1
 refine⟨kvs,H++[.dic kvs false],H.length,?_,by simp,⟨fun p hp=>?_,fun ls hls _=>?_,by simpa using a4,fun p hp=>?_⟩,Fz.app _⟩
 ·show ((Zby [some (.tup (rss.map Zaz)),none,none,none] H).bind _)=_
  unfold Zby
  rw[Zd2 s1,Zd2 e1]
  rfl
 ·rcases a1 p hp with h | ⟨ls,h1,h2⟩
  ·simp at h
  ·obtain⟨o1,o2⟩:=Zgs [] ls 0 (hu ls h1) (by simp)
   exact⟨ls,h1,o2,by rw[o1]; exact h2⟩
 ·obtain⟨o1,o2⟩:=Zgs [] ls 0 (hu ls hls) (by simp)
  rw[o1]; exact a3 ls hls
 ·rcases a5 p hp with h | ⟨i,ls,h1,h2⟩
  ·simp at h
  ·obtain⟨o1,o2⟩:=Zgs [] ls 0 (hu ls (Xz h1)) (by simp)
   exact⟨i,ls,h1,o2,by rw[o1,h2]; simp⟩
nonrec def hd0:List Int->Int
 | []=>0
 | l::_=>l
theorem act {b:Int} {t:Bool} {ls:List Int} (hb:0<=b) :
  (hd0 ls = -(if t=true then b+1 else -(b+1))->Zj5 b t ls=false/\Zfn b ls=ls.drop 1) /\
  (hd0 ls ≠ -(if t=true then b+1 else -(b+1))->hd0 ls≠(if t=true then b+1 else -(b+1))->Zj5 b t ls=false/\Zfn b ls=ls) /\
  (hd0 ls ≠ -(if t=true then b+1 else -(b+1))->hd0 ls=(if t=true then b+1 else -(b+1))->Zj5 b t ls=true):=by
 cases ls with
 | nil =>
  refine⟨fun h=>?_,fun _ _=>⟨rfl,rfl⟩,fun _ h=>?_⟩
  ·simp only[hd0] at h; split at h<;>omega
  ·simp only[hd0] at h; split at h<;>omega
 | cons l r =>
  simp only[hd0,Zj5,Zfn,List.drop_one,List.tail_cons]
  cases t with
  | true =>
   simp only[if_true]
   refine⟨fun h=>?_,fun h1 h2=>?_,fun h1 h2=>?_⟩
   ·have e:Zan l=b+1:=by unfold Zan; split<;>omega
    have g:decide (0<l)=false:=decide_eq_false (by omega)
    rw[g,if_pos e]; simp
   ·have e:Zan l≠b+1:=by unfold Zan; split<;>omega
    rw[if_neg e,decide_eq_false e]; simp
   ·have e:Zan l=b+1:=by unfold Zan; split<;>omega
    have g:decide (0<l)=true:=decide_eq_true (by omega)
    rw[g,decide_eq_true e]; rfl
  | false =>
   simp only[Wbb,if_false]
   refine⟨fun h=>?_,fun h1 h2=>?_,fun h1 h2=>?_⟩
   ·have e:Zan l=b+1:=by unfold Zan; split<;>omega
    have g:decide (0<l)=true:=decide_eq_true (by omega)
    rw[g,if_pos e]; simp
   ·have e:Zan l≠b+1:=by unfold Zan; split<;>omega
    rw[if_neg e,decide_eq_false e]; simp
   ·have e:Zan l=b+1:=by unfold Zan; split<;>omega
    have g:decide (0<l)=false:=decide_eq_false (by omega)
    rw[g,decide_eq_true e]; rfl
nonrec abbrev bb:SF:=(Zaf (Zbe 6 (eIf (Zfd (Zac 5)) (eOp ixD (Zac 5) (eC (.int 0))) (eC (.int 0))))
 (Zaf (sIf (tOf (eOp eqD (Zac 6) (eUn Zka (Zac 3)))) (Zaf (Zbw (eDM Zj9 (Zac 4) (Zab (eSl (Zac 5) (Zfb (eC (.int 1))) Zge) (Zab (eOp Zf6 (Zac 0) (Zac 5)) Zag))))
 Zaj) (Zaf (sIf (tOf (eOp neD (Zac 6) (Zac 3))) (Zaf (Zbw (eDM Zj9 (Zac 4) (Zab (Zac 5) (Zab (eOp Zf6 (Zac 0) (Zac 5)) Zag))))
 Zaj) Zaj)
 Zaj))
 Zaj))
theorem un {g:D->HD->Option (D×HD)} {f:EF} {σ:SD} {H H1:HD} {d:D} {r:Option (D×HD)} (h1:f σ H=some (d,H1)) (h2:g d H1=r):eUn g f σ H=r:=by
 unfold eUn; rw[h1]; exact h2
theorem bb_ok {p q:Nat} {kvs acc:List (D×D)} {b:Int} {t:Bool} {a1 a2 z6:Option D} {ls:List Int} {H:HD} (hb:0<=b) (hp:H[p]? = some (.dic kvs true)) (hq:H[q]? = some (.dic acc false)) (hl:acc.length<=100000) (hk:(Zbk kvs ls).isSome=true) :
  ∃ (v:D) (z6':Option D),Zbk kvs ls=some v/\bb [some (.ref p),a1,a2,some (.int (if t=true then b+1 else -(b+1))),some (.ref q),some (Zaz ls),z6] H=some (.nx,[some (.ref p),a1,a2,some (.int (if t=true then b+1 else -(b+1))),some (.ref q),some (Zaz ls),z6'],H.set q (.dic (if Zj5 b t ls=true then acc else Zh9 acc (Zfn b ls) v) false)):=by
 let R:Int:=if t=true then b+1 else -(b+1)
 obtain⟨v,ev⟩:=Wan.mp hk
 have self:H.set q (.dic acc false)=H:=by
  obtain⟨h1,h2⟩:=Xc.mp hq
  rw[<- h2,Wcm h1]
 have s1:Zbe 6 (eIf (Zfd (Zac 5)) (eOp ixD (Zac 5) (eC (.int 0))) (eC (.int 0))) [some (.ref p),a1,a2,some (.int R),some (.ref q),some (Zaz ls),z6] H=some (.nx,[some (.ref p),a1,a2,some (.int R),some (.ref q),some (Zaz ls),some (.int (hd0 ls))],H):=by
  refine Zzq (d:=.int (hd0 ls)) ?_
  have tv:Zfd (Zac 5) [some (.ref p),a1,a2,some (.int R),some (.ref q),some (Zaz ls),z6] H=some (!ls.isEmpty,H):=by
   unfold Zfd; rw[vr (d:=Zaz ls) rfl]; simp[Zaz,Zuc]
  unfold eIf
  rw[tv]
  cases ls with
  | nil=>rfl
  | cons l r =>
   have:atI ((l::r).map D.int) 0=some (.int l):=Zcj (j:=0) rfl
   show eOp ixD (Zac 5) (eC (.int 0)) [some (.ref p),a1,a2,some (.int R),some (.ref q),some (Zaz (l::r)),z6] H=some (.int l,H)
   exact op (vr rfl) rfl (ixT this)
 let σ:SD:=[some (.ref p),a1,a2,some (.int R),some (.ref q),some (Zaz ls),some (.int (hd0 ls))]
 have dg:eOp Zf6 (Zac 0) (Zac 5) σ H=some (v,H):=by
  refine op (vr rfl) (vr rfl) ?_
  simp[Zf6,Yao,hp,Ze6,ev]
 have t1:tOf (eOp eqD (Zac 6) (eUn Zka (Zac 3))) σ H=some (hd0 ls == -R,H):=tof (op (vr rfl) (un (vr rfl) rfl) (Zy5 _ _ _))
 have t2:tOf (eOp neD (Zac 6) (Zac 3)) σ H=some (!(hd0 ls==R),H):=tof (op (vr rfl) (vr rfl) (Ycx _ _ _))
 have id1:Zpc (.ref q) H=true:=by simp[Zpc,hq]
 obtain⟨A1,A2,A3⟩:=act (b:=b) (t:=t) (ls:=ls) hb
 refine⟨v,some (.int (hd0 ls)),ev,?_⟩
 show bb [some (.ref p),a1,a2,some (.int R),some (.ref q),some (Zaz ls),z6] H=some (.nx,σ,_)
 unfold bb
 rw[Zd2 s1]
 by_cases c1:hd0 ls = -R
 ·obtain⟨h1,h2⟩:=A1 c1
  have sd:slD (Zaz ls) (some 1) none H=some (Zaz (ls.drop 1),H):=by
   have:=sllo (xs:=ls.map D.int) (k:=1) (H:=H)
   rw[<- Wcp] at this
   exact this
  obtain⟨z,es⟩:=Zok (k:=ls.drop 1) (v:=v) hq hl
  rw[h1,if_neg (by simp),h2]
  refine(Zd2 (σ1:=σ) (H1:=H.set q (.dic (Zh9 acc (ls.drop 1) v) false)) ?_).trans rfl
  rw[Zr0 t1,if_pos (by simpa using c1)]
  exact(Zd2 (ex (dm (vr rfl) id1 (ac (sl (vr rfl) (os rfl) on sd) (ac dg an)) es))).trans rfl
 ·by_cases c2:hd0 ls=R
  ·rw[A3 c1 c2,if_pos rfl,self]
   refine(Zd2 (σ1:=σ) (H1:=H) ?_).trans rfl
   rw[Zr0 t1,if_neg (by simpa using c1)]
   refine(Zd2 (σ1:=σ) (H1:=H) ?_).trans rfl
   rw[Zr0 t2,if_neg (by simpa using c2)]
   rfl
  ·obtain⟨h1,h2⟩:=A2 c1 c2
   obtain⟨z,es⟩:=Zok (k:=ls) (v:=v) hq hl
   rw[h1,if_neg (by simp),h2]
   refine(Zd2 (σ1:=σ) (H1:=H.set q (.dic (Zh9 acc ls v) false)) ?_).trans rfl
   rw[Zr0 t1,if_neg (by simpa using c1)]
   refine(Zd2 (σ1:=σ) (H1:=H.set q (.dic (Zh9 acc ls v) false)) ?_).trans rfl
   rw[Zr0 t2,if_pos (by simpa using c2)]
   exact(Zd2 (ex (dm (vr rfl) id1 (ac (vr rfl) (ac dg an)) es))).trans rfl
theorem Zsx {p q:Nat} {kvs:List (D×D)} {b:Int} {t:Bool} {a1 a2:Option D} (hb:0<=b) (hpq:p≠q):∀ (qs:List (List Int)) (acc:List (D×D)) (H:HD) (z5 z6:Option D),H[p]? = some (.dic kvs true)->H[q]? = some (.dic acc false)->acc.length+qs.length<=100000->(∀ ls∈qs,(Zbk kvs ls).isSome=true) ->
  ∃ (acc':List (D×D)) (z5' z6':Option D),Zif [(p,.dic kvs true)] (gNm 5) bb (qs.map Zaz) [some (.ref p),a1,a2,some (.int (if t=true then b+1 else -(b+1))),some (.ref q),z5,z6] H=some (.nx,[some (.ref p),a1,a2,some (.int (if t=true then b+1 else -(b+1))),some (.ref q),z5',z6'],H.set q (.dic acc' false)) /\
   (∀ x∈acc',x∈acc\/∃ ls∈qs,Zj5 b t ls=false/\x.1=Zaz (Zfn b ls))/\(∀ k,(Zbk acc k).isSome=true->(Zbk acc' k).isSome=true)/\(∀ ls∈qs,Zj5 b t ls=false->(Zbk acc' (Zfn b ls)).isSome=true)/\acc'.length<=acc.length+qs.length/\(∀ x∈acc',x∈acc\/∃ ls∈qs,Zj5 b t ls=false/\x.1=Zaz (Zfn b ls)/\Zbk kvs ls=some x.2)
 | [],acc,H,z5,z6,hp,hq,_,_=>by
  obtain⟨h1,h2⟩:=Xc.mp hq
  refine⟨acc,z5,z6,?_,fun p hp=>.inl hp,fun _ h=>h,by simp,by simp,fun p hp=>.inl hp⟩
  rw[Wdt,Zif,if_pos (by intro x hx; simp at hx; subst hx; exact hp),<- h2,Wcm h1]
 | ls::qs,acc,H,z5,z6,hp,hq,hl,hk=>by
  have lt:=(Xc.mp hq).1
  rw[Xl,Zif,if_pos (by intro x hx; simp at hx; subst hx; exact hp)]
  simp only[gNm,List.set,Zb]
  obtain⟨v,z6',ev,e1⟩:=bb_ok (t:=t) (a1:=a1) (a2:=a2) (z6:=z6) (ls:=ls) hb hp hq (by omega) (hk ls (by simp))
  rw[e1]
  simp only[Zb]
  let acc1:=if Zj5 b t ls=true then acc else Zh9 acc (Zfn b ls) v
  have al:acc1.length<=acc.length+1:=by
   show (if Zj5 b t ls=true then acc else Zh9 acc (Zfn b ls) v).length<=_
   split
   ·omega
   ·exact Zvy _ _ _
  obtain⟨acc',z5',z6'',e,a1',a2',a3',a4',a5'⟩:=Zsx (p:=p) (q:=q) (kvs:=kvs) (t:=t) (a1:=a1) (a2:=a2) hb hpq qs acc1 (H.set q (.dic acc1 false)) (some (Zaz ls)) z6' (by rw[Wap (Uo hpq)]; exact hp) (by rw[Wbc lt]) (by simp at hl ⊢; omega) (fun l hl=>hk l (by simp[hl]))
  have mono:∀ k,(Zbk acc k).isSome=true->(Zbk acc1 k).isSome=true:=fun k hk=>by
   show (Zbk (if Zj5 b t ls=true then acc else Zh9 acc (Zfn b ls) v) k).isSome=true
   split
   ·exact hk
   ·rw[Zig,hk]; rfl
  have lenF:acc'.length<=acc.length+(ls::qs).length:=by
   have e8:(ls::qs).length=qs.length+1:=rfl
   have e9:acc'.length<=acc1.length+qs.length:=a4'
   omega
  refine⟨acc',z5',z6'',by rw[e,List.set_set],fun x hx=>?_,fun k hk=>a2' k (mono k hk),fun l hl' hh=>?_,lenF,fun x hx=>?_⟩
  ·rcases a1' x hx with h | ⟨l,h1,h2⟩
   ·cases hc:Zj5 b t ls with
    | true =>
     have:acc1=acc:=if_pos hc
     rw[this] at h; exact .inl h
    | false =>
     have:acc1=Zh9 acc (Zfn b ls) v:=if_neg (by rw[hc]; simp)
     rw[this] at h
     rcases Zvq h with h | h
     ·exact .inl h
     ·exact .inr ⟨ls,by simp,hc,h⟩
   ·exact .inr ⟨l,by simp[h1],h2⟩
  ·rcases Xj.mp hl' with rfl | hl'
   ·refine a2' _ ?_
    have:acc1=Zh9 acc (Zfn b l) v:=if_neg (by rw[hh]; simp)
    rw[this,Zig]; simp
   ·exact a3' l hl' hh
  ·rcases a5' x hx with h | ⟨l,h1,h2⟩
   ·cases hc:Zj5 b t ls with
    | true =>
     have:acc1=acc:=if_pos hc
     rw[this] at h; exact .inl h
    | false =>
     have:acc1=Zh9 acc (Zfn b ls) v:=if_neg (by rw[hc]; simp)
     rw[this] at h
     rcases Zqu h with h | h
     ·exact .inl h
     ·exact .inr ⟨ls,by simp,hc,by rw[h],by rw[h]; exact ev⟩
   ·exact .inr ⟨l,by simp[h1],h2⟩
theorem Zm8 {kvs:List (D×D)} {k:List Int} (h:(Zbk kvs k).isSome=true):∃ p∈kvs,nk p.1=some k:=by
 unfold Zbk at h
 rw[Wfj] at h
 obtain⟨p,e⟩:=Wan.mp h
 exact⟨p,Wdy e,by have:=Wfy e; simpa using this⟩
theorem Znd {kvs:List (D×D)} {k:List Int} {p:D×D} (hp:p∈kvs) (h:nk p.1=some k):(Zbk kvs k).isSome=true:=by
 unfold Zbk
 rw[Wfj,List.find?_isSome]
 exact⟨p,hp,by simp[h]⟩
theorem Zqr {kvs:List (D×D)} {k:List Int} {v:D} (h:Zbk kvs k=some v):∃ p∈kvs,nk p.1=some k/\p.2=v:=by
 unfold Zbk at h
 obtain⟨p,e,rfl⟩:=Zm h
 exact⟨p,Wdy e,by have:=Wfy e; simpa using this,rfl⟩
theorem Zvt {rss:List (List Int)} {bs:List Bool}:∀ {kvs:List (D×D)},(∀ p∈kvs,∃ ls∈rss,kept bs ls=false/\p.1=Zaz (rest bs ls))->∃ qs:List (List Int),kvs.map (·.1)=qs.map Zaz/\∀ q∈qs,∃ ls∈rss,kept bs ls=false/\q=rest bs ls
 | [],_=>⟨[],rfl,by simp⟩
 | p::kvs,h=>by
  obtain⟨ls,h1,h2,h3⟩:=h p (by simp)
  obtain⟨qs,e,g⟩:=Zvt (kvs:=kvs) fun x hx=>h x (by simp[hx])
  refine⟨rest bs ls::qs,by rw[Xl,Xl,e,h3],fun q hq=>?_⟩
  rcases Xj.mp hq with rfl | hq
  ·exact⟨ls,h1,h2,rfl⟩
  ·exact g q hq
theorem Ybe {a b:List Int} (h:Zaz a=Zaz b):a=b:=by
 have:=Ze6 a
 rw[h,Ze6] at this
 exact(Wac.inj this).symm
theorem Zvc {rss:List (List Int)} {m:Int} {bs:List Bool} {t:Bool} {kvs:List (D×D)} {fz:Bool} {p:Nat} {H:HD} (hu:∀ ls∈rss,Up m 0 ls) (hl:rss.length<=1000) (hp:H[p]? = some (.dic kvs fz)) (dr:DR rss bs kvs) :
  ∃ (kvs':List (D×D)) (H':HD) (q:Nat),Zdl [.ref p,.int ((bs.length:Int)+1),.bl t] H=some (.ref q,H')/\H'[q]? = some (.dic kvs' false)/\DR rss (bs++[t]) kvs'/\Fz H H':=by
 obtain⟨qs,eq,gq⟩:=Zvt dr.key
 let b:Int:=bs.length
 have hb:0<=b:=by show (0:Int)<=bs.length; omega
 let R:Int:=if t=true then b+1 else -(b+1)
 have ltp:=(Xc.mp hp).1
 have s1:Zbe 3 (eIf (Zfd (Zac 2)) (Zac 1) (eUn Zka (Zac 1))) [some (.ref p),some (.int (b+1)),some (.bl t),none,none,none,none] H=some (.nx,[some (.ref p),some (.int (b+1)),some (.bl t),some (.int R),none,none,none],H):=by
  refine Zzq (d:=.int R) ?_
  cases t<;>rfl
 have s2:Zbe 4 eDN [some (.ref p),some (.int (b+1)),some (.bl t),some (.int R),none,none,none] H=some (.nx,[some (.ref p),some (.int (b+1)),some (.bl t),some (.int R),some (.ref H.length),none,none],H++[.dic [] false]):=rfl
 let H1:HD:=(H++[DO.dic [] false]).set p (DO.dic kvs true)
 have hp0:(H++[DO.dic [] false])[p]? = some (.dic kvs fz):=by rw[Xh ltp]; exact hp
 have hp1:H1[p]? = some (.dic kvs true):=by rw[Wbc (by simp; omega)]
 have hq1:H1[H.length]? = some (.dic [] false):=by rw[Wap (by omega)]; simp
 have lq:qs.length=kvs.length:=by have:=congrArg Wbo eq; simpa using this.symm
 have kk:∀ ls∈qs,(Zbk kvs ls).isSome=true:=fun ls hls=>by
  have:Zaz ls∈kvs.map (·.1):=by rw[eq]; exact Wez hls
  obtain⟨x,hx,ex⟩:=Xn.mp this
  exact Znd hx (by rw[ex,Ze6])
 have dl:=dr.len
 obtain⟨acc,z5,z6,e,a1,a2,a3,a4,a5⟩:=Zsx (p:=p) (q:=H.length) (kvs:=kvs) (b:=b) (t:=t) (a1:=some (.int (b+1))) (a2:=some (.bl t)) hb (by omega) qs [] H1 none none hp1 hq1 (by simp; omega) kk
 have e1:Zed (Yad (Zac 0)) (gNm 5) bb [some (.ref p),some (.int (b+1)),some (.bl t),some (.int R),some (.ref H.length),none,none] (H++[.dic [] false])=some (.nx,[some (.ref p),some (.int (b+1)),some (.bl t),some (.int R),some (.ref H.length),z5,z6],H1.set H.length (.dic acc false)):=by
  unfold Zed Yad
  rw[vr (d:=.ref p) rfl]
  simp only[Zb,hp0]
  rw[eq]
  exact e
 have lt1:H.length<H1.length:=(Xc.mp hq1).1
 refine⟨acc,H1.set H.length (.dic acc false),H.length,?_,by rw[Wbc lt1],⟨fun x hx=>?_,fun ls hls hk=>?_,?_,fun x hx=>?_⟩,⟨fun mm o ho=>?_,by simp[H1]⟩⟩
 ·show ((Zcl [some (.ref p),some (.int (b+1)),some (.bl t),none,none,none,none] H).bind _)=_
  unfold Zcl
  rw[Zd2 s1,Zd2 s2,Zd2 e1]
  rfl
 ·rcases a1 x hx with h | ⟨q,h1,h2,h3⟩
  ·simp at h
  ·obtain⟨ls,g1,g2,rfl⟩:=gq q h1
   obtain⟨n1,n2⟩:=Zgo bs t ls 0 (Wcu _) (hu ls g1)
   refine⟨ls,g1,?_,by rw[n1]; exact h3⟩
   rw[n2,g2]; exact h2
 ·obtain⟨n1,n2⟩:=Zgo bs t ls 0 (Wcu _) (hu ls hls)
  rw[n2,Bool.or_eq_false_iff] at hk
  obtain⟨x,hx,ex⟩:=Zm8 (dr.all ls hls hk.1)
  have hm:x.1∈qs.map Zaz:=by rw[<- eq]; exact Wez hx
  obtain⟨q,hq,eqq⟩:=Xn.mp hm
  have:q=rest bs ls:=by rw[<- eqq,Ze6] at ex; exact Wac.inj ex
  subst this
  rw[n1]
  exact a3 _ hq hk.2
 ·simp at a4; omega
 ·rcases a5 x hx with h | ⟨q,h1,h2,h3,h4⟩
  ·simp at h
  ·obtain⟨y,y1,y2,y3⟩:=Zqr h4
   obtain⟨i,ls,g1,g2,rfl⟩:=dr.val y y1
   have:q=rest bs ls:=by rw[Ze6] at y2; exact(Wac.inj y2).symm
   subst this
   obtain⟨n1,n2⟩:=Zgo bs t ls 0 (Wcu _) (hu ls (Xz g1))
   exact⟨i,ls,g1,by rw[n2,g2]; exact h2,Prod.ext (by rw[n1]; exact h3) y3.symm⟩
 ·have lm:mm<H.length:=(Xc.mp ho).1
  rw[Wap (by omega)]
  by_cases c:p=mm
  ·subst c
   rw[hp] at ho
   cases ho
   cases fz with
   | true=>exact .inl hp1
   | false=>exact .inr ⟨kvs,rfl,hp1⟩
  ·refine .inl ?_
   show ((H++[DO.dic [] false]).set p (.dic kvs true))[mm]? = some o
   rw[Wap c,Xh lm]; exact ho
nonrec def kS (d:D):Bool:=match d with
 | .str s=>s == "some"
 | _=>false
nonrec def Zbx (b:Bool):D:=if b then .str "some" else .str "all"
theorem Zix {d:D} (h:Zcc d):d=Zbx (kS d):=by
 rcases h with rfl | rfl
 ·have:kS (.str "all")=false:=by decide
  rw[this]; rfl
 ·have:kS (.str "some")=true:=by decide
  rw[this]; rfl
nonrec def W (ks:List D) (rss:List (List Int)):Nat->List Bool->Bool
 | 0,bs=>rss.all (kept bs)
 | j+1,bs =>
  let who:=kS (ks.getD bs.length .non)
  if W ks rss j (bs++[false])==who||W ks rss j (bs++[true])==who then who else !who
theorem Znf {bs:List Bool} {t:Bool} {ls:List Int} {m:Int} (hu:Up m 0 ls) (h:kept bs ls=true):kept (bs++[t]) ls=true:=by
 rw[(Zgo bs t ls 0 (Wcu _) hu).2,h]; rfl
theorem Zua {ks:List D} {rss:List (List Int)} {m:Int} (hu:∀ ls∈rss,Up m 0 ls):∀ (j:Nat) (bs:List Bool),(∀ ls∈rss,kept bs ls=true)->W ks rss j bs=true
 | 0,bs,h=>by unfold W; rw[Xs]; exact h
 | j+1,bs,h=>by
  have a:=Zua (ks:=ks) hu j (bs++[false]) fun ls hl=>Znf (hu ls hl) (h ls hl)
  have b:=Zua (ks:=ks) hu j (bs++[true]) fun ls hl=>Znf (hu ls hl) (h ls hl)
  unfold W
  rw[a,b]
  cases kS (ks.getD bs.length .non)<;>rfl
theorem Zmq {bs:List Bool} {t:Bool} {ls:List Int} {m:Int} (hu:Up m 0 ls) (h:kept bs ls=false/\rest bs ls=[]):kept (bs++[t]) ls=false/\rest (bs++[t]) ls=[]:=by
 obtain⟨n1,n2⟩:=Zgo bs t ls 0 (Wcu _) hu
 rw[n1,n2,h.1,h.2]; exact⟨rfl,rfl⟩
theorem Yb2 {ks:List D} {rss:List (List Int)} {m:Int} {ls:List Int} (hl:ls∈rss) (hu:Up m 0 ls):∀ (j:Nat) (bs:List Bool),kept bs ls=false/\rest bs ls=[]->W ks rss j bs=false
 | 0,bs,h=>by
  unfold W
  cases e:rss.all (kept bs) with
  | false=>rfl
  | true=>rw[Xs.mp e ls hl] at h; cases h.1
 | j+1,bs,h=>by
  have a:=Yb2 (ks:=ks) hl hu j (bs++[false]) (Zmq hu h)
  have b:=Yb2 (ks:=ks) hl hu j (bs++[true]) (Zmq hu h)
  unfold W
  rw[a,b]
  cases kS (ks.getD bs.length .non)<;>rfl
theorem Zwa {m:Int} (bs:List Bool) (h:m<=bs.length):∀ (ls:List Int) (last:Int),Up m last ls->rest bs ls=[]
 | [],_,_=>rfl
 | l::r,last,u=>by
  have o:opn bs l=false:=decide_eq_false (by have:=u.2.1; omega)
  unfold rest
  rw[Wba (by rw[o]; simp)]
  exact Zwa bs h r (Zan l) u.2.2
theorem Zxb (b:Bool) (H:HD):Zci [Zbx b] H=some (Zbx (!b),H):=by
 cases b
 ·have:((("all" : Str))==("some" : Str))=false:=by decide
  simp[Zci,Zc6,Za4,Zbx,Zaf,Zbc,eIf,tOf,eOp,eqD,Zrm,Zac,eC,blD,this]
 ·simp[Zci,Zc6,Za4,Zbx,Zaf,Zbc,eIf,tOf,eOp,eqD,Zrm,Zac,eC,blD]
theorem Zpo (a b:Bool) (H:HD):eqD (Zbx a) (Zbx b) H=some (.bl (a==b),H):=by
 have e1:((("all" : Str))==("some" : Str))=false:=by decide
 have e2:((("some" : Str))==("all" : Str))=false:=by decide
 cases a<;>cases b<;>simp[eqD,Zrm,Zbx,e1,e2]
nonrec def Zaq (bs:List Bool):D:=.tup (bs.map .bl)
end K08
namespace K08
open PySem L2 DL LH WP
theorem at0 (a b:D):atI [a,b] 0=some a:=Zcj (j:=0) rfl
theorem at1 (a b:D):atI [a,b] 1=some b:=Zcj (j:=1) rfl
theorem Fz.fm {H H':HD} (x:Fz H H'):Fm [] H H':=⟨fun m o _ h=>x.old m o h,x.len⟩
structure Cl (ks:List D) (rss:List (List Int)):Prop where
 hk:∀ d∈ks,Zcc d
 hu:∀ ls∈rss,Up ks.length 0 ls
 hl:rss.length<=1000
 h8:ks.length<=8
nonrec def Zal (ks:List D) (rss:List (List Int)):D:=.tup [.tup ks,.tup (rss.map Zaz)]
variable {H:HD} {Q:D->HD->Prop}
theorem w_cl0 {ks:List D} {rss:List (List Int)} (q:Q (.tup ks) H):wE (ixD (Zal ks rss) (.int 0) H) Q:=⟨_,_,ixT (at0 _ _),q⟩
theorem w_cl1 {ks:List D} {rss:List (List Int)} (q:Q (.tup (rss.map Zaz)) H):wE (ixD (Zal ks rss) (.int 1) H) Q:=⟨_,_,ixT (at1 _ _),q⟩
nonrec def FW (ks:List D) (rss:List (List Int)) (bs:List Bool):D:=Zbx (W ks rss (ks.length - bs.length) bs)
theorem Yfa {bs:List Bool} {H:HD} {Q:D->HD->Prop} (q:Q (.int bs.length) H):wE (Zc7 [Zaq bs] H) Q:=⟨_,_,lenB bs H,q⟩
theorem Yc8 {bs:List Bool} {t:Bool} {H:HD} {Q:D->HD->Prop} (h:bs.length<=1000) (q:Q (Zaq (bs++[t])) H):wE (Zb6 (Zaq bs) (.tup [.bl t]) H) Q :=
 ⟨Zaq (bs++[t]),H,by unfold Zaq; rw[adT (by simp; omega),Waj]; rfl,q⟩
theorem Zlv {ks:List D} (hk:∀ d∈ks,Zcc d) {i:Nat} (h:i<ks.length):ks[i]? = some (Zbx (kS (ks.getD i .non))):=by
 have e0:ks.getD i .non=ks[i]:=by simp[List.getD,h]
 have:=Zix (hk ks[i] (Xy h))
 rw[Xg h,e0]
 exact congrArg some this
theorem Zhf {a b:Bool} (q:Q (.bl (a==b)) H):wE (eqD (Zbx a) (Zbx b) H) Q:=⟨_,_,Zpo _ _ _,q⟩
theorem Zqa {ks:List D} {rss:List (List Int)} {bs:List Bool} {t:Bool} {kvs:List (D×D)} {p:Nat} {fz:Bool} (c:Cl ks rss) (g:H[p]? = some (.dic kvs fz)) (dr:DR rss bs kvs)
  (q:∀ kvs' r H',H'[r]? = some (.dic kvs' false)->DR rss (bs++[t]) kvs'->Fm [] H H'->Q (.ref r) H'):wE (Zdl [.ref p,.int ((bs.length:Int)+1),.bl t] H) Q:=by
 obtain⟨kvs',H',r,e,g',d',x⟩:=Zvc (t:=t) c.hu c.hl g dr
 exact⟨_,_,e,q kvs' r H' g' d' x.fm⟩
theorem Yay {ks:List D} {rss:List (List Int)} (c:Cl ks rss) (q:∀ kvs r H',H'[r]? = some (.dic kvs false)->DR rss [] kvs->Fm [] H H'->Q (.ref r) H'):wE (Zcp [.tup (rss.map Zaz)] H) Q:=by
 obtain⟨kvs',H',r,e,g',d',x⟩:=Zxx c.hu c.hl H
 exact⟨_,_,e,q kvs' r H' g' d' x.fm⟩
local macro_rules | `(tactic| fail $s:str)=>do
 if s.getString == "g" then `(tactic| (repeat fail "go")) else if s.getString == "i" then `(tactic| ((repeat fail "go"); (refine WP.w_if ?_; (repeat fail "go")))) else Lean.Macro.throwUnsupported
local macro_rules | `(tactic| fail $s:str)=>do
 if s.getString == "lk" then `(tactic| first | assumption | with_reducible exact WP.last | (with_reducible refine WP.appL ?_; fail "lk"))
 else if s.getString == "go" then do
  let a0 <- `(by with_unfolding_all rfl)
  let a1 <- `(?_)
  let a2 <- `(by first | (simp; done) | (simp; omega) | omega)
  let a3 <- `(by decide)
  let a4 <- `(by with_unfolding_all first | exact(rfl:_=true) | exact(rfl:_=false))
  let a5 <- `(by fail "lk")
  let a6 <- `(by with_unfolding_all exact rfl)
  let t<-([`WP.w_var].map (·,[a0,a1])++[`WP.w_c,`WP.w_seq,`WP.w_kn,`WP.w_set,`WP.w_op,`WP.w_acons,`WP.w_anil,`WP.w_call,`WP.w_cb,`WP.w_tof,`WP.w_bl,`WP.w_bt,`WP.w_bf,`WP.w_bnt,`WP.w_bnf,`WP.w_ret,`WP.w_fr,`WP.w_kr,`WP.w_snil,`WP.w_expr,`WP.w_for,`WP.w_or,`WP.w_an,`WP.w_no,`WP.w_ttru,`WP.w_eif,`WP.w_eno,`WP.w_ean,`WP.w_eorr,`WP.w_un,`WP.w_ch,`WP.w_int,`WP.w_tup,`WP.w_lst,`WP.w_lm,`WP.w_tm,`WP.w_dm,`WP.w_dn,`WP.w_on,`WP.w_os,`WP.w_sl,`WP.w_rv,`WP.w_lc,`WP.w_asg,`WP.w_gnm,`WP.w_gsb,`WP.w_gcn,`WP.w_gnl].map (·,[a1])++[`WP.w_n,`WP.w_gtp,`WP.w_ixT,`WP.w_isN,`WP.w_isnN,`WP.w_isBl,`WP.w_isnBl].map (·,[a0,a1])++[`WP.w_sz,`WP.w_addT].map (·,[a2,a1])++[`WP.w_mod].map (·,[a3,a1])++[`WP.w_fdiv,`WP.w_mulL,`WP.w_mulR].map (·,[a3,a3,a1])++[`WP.w_eqI',`WP.w_neI',`WP.w_eqS',`WP.w_neS'].map (·,[a4,a1])++[`WP.w_lenR,`WP.w_tupR,`WP.w_itR].map (·,[a5,a1])++[`WP.w_ixR].map (·,[a5,a0,a1])++[`WP.w_isi'].map (·,[a0,a0,a4,a1])++[`WP.w_addI,`WP.w_subI,`WP.w_lt,`WP.w_le,`WP.w_gt,`WP.w_ge,`WP.w_slhi,`WP.w_sllo,`WP.w_sllo1,`WP.w_neg,`WP.w_eqI,`WP.w_neI,`WP.w_eqS,`WP.w_neS,`WP.w_lenT,`WP.w_lenF,`WP.w_abs,`WP.w_intI,`WP.w_intB,`WP.w_max,`WP.w_min,`WP.w_truB,`WP.w_truT,`WP.w_truN,`WP.w_isq,`WP.w_itT,`WP.w_itF,`WP.w_ir1,`WP.w_ir2,`WP.w_ir3,`WP.w_idic,`WP.w_enum,`WP.w_enum1,`WP.w_zip,`WP.w_yes,`WP.w_retn,`WP.w_fn,`WP.w_agn,`WP.w_agr,`WP.w_kb,`WP.w_kc,`WP.w_agb,`WP.w_agc,`WP.w_brk,`WP.w_cnt].map (·,[a1])++[`WP.w_bT,`WP.w_bF].map (·,[a6,a1]):List (Lean.Name×List Lean.Term)).foldrM (fun p (r:Lean.TSyntax `tactic) => `(tactic| first | with_reducible refine $(Lean.Syntax.mkApp (Lean.mkIdent p.1) p.2.toArray) | $r:tactic)) (<- `(tactic| fail "no"))
  return t
 else Lean.Macro.throwUnsupported
local macro_rules | `(tactic| fail $s:str)=>do
 if s.getString == "go" then `(tactic| first | with_reducible refine Yfa ?_ | with_reducible refine Yc8 (by omega) ?_ | with_reducible refine w_cl0 ?_ | with_reducible refine w_cl1 ?_)
 else Lean.Macro.throwUnsupported
variable {H:HD} {Q:D->HD->Prop}
nonrec def Zit (ks:List D) (ls:List Int):Bool:=ls.all fun l => !kS (ks.getD (Zan l - 1).toNat .non)
theorem Zr4 {ks:List D} {b:Int} {ls:List Int} (h:Zit ks ls=true):Zit ks (Zfn b ls)=true:=by
 cases ls with
 | nil=>exact h
 | cons l r =>
  show Zit ks (if Zan l=b+1 then r else l::r)=true
  split
  ·unfold Zit at h ⊢; rw[Wcn,Wah] at h; exact h.2
  ·exact h
theorem Zzh {ks:List D} {rss:List (List Int)} {ls:List Int} (hl:ls∈rss) (hu:Up ks.length 0 ls):∀ (j:Nat) (bs:List Bool),bs.length+j=ks.length->kept bs ls=false->Zit ks (rest bs ls)=true->W ks rss j bs=false
 | 0,bs,hb,hk,ha=>Yb2 hl hu 0 bs ⟨hk,Zwa bs (by omega) ls 0 hu⟩
 | j+1,bs,hb,hk,ha=>by
  have nx:=fun t=>Zgo bs t ls 0 (Wcu _) hu
  have go:∀ t,Zj5 bs.length t (rest bs ls)=false->W ks rss j (bs++[t])=false:=fun t ht =>
   Zzh hl hu j (bs++[t]) (by simp; omega) (by rw[(nx t).2,hk,ht]; rfl) (by rw[(nx t).1]; exact Zr4 ha)
  unfold W
  cases hw:kS (ks.getD bs.length .non) with
  | false =>
   have:∃ t,Zj5 bs.length t (rest bs ls)=false:=by
    cases rest bs ls with
    | nil=>exact⟨false,rfl⟩
    | cons l r =>
     refine⟨!decide (0<l),?_⟩
     show (decide (Zan l=(bs.length:Int)+1)&&((!decide (0<l))==decide (0<l)))=false
     cases decide (0<l)<;>cases decide (Zan l=(bs.length:Int)+1)<;>rfl
   obtain⟨t,ht⟩:=this
   have:=go t ht
   cases t
   ·simp[this]
   ·simp[this]
  | true =>
   have nh:∀ t,Zj5 bs.length t (rest bs ls)=false:=by
    intro t
    cases e:rest bs ls with
    | nil=>rfl
    | cons l r =>
     unfold Zj5
     rw[e] at ha
     unfold Zit at ha
     rw[Wcn,Wah] at ha
     have:¬ Zan l=(bs.length:Int)+1:=fun z=>by
      have h2:(Zan l - 1).toNat=bs.length:=by omega
      rw[h2,hw] at ha
      cases ha.1
     simp[this]
   simp[go _ (nh false),go _ (nh true)]
inductive PlanD (ks:List D) (rss:List (List Int)) (side:Bool):List Bool->D->Prop
 | kept {bs:List Bool}:side=true->(∀ ls∈rss,kept bs ls=true)->PlanD ks rss side bs (.tup [.str "kept"])
 | lost {bs:List Bool} {i:Nat} {ls:List Int}:side=false->rss[i]? = some ls->K08.kept bs ls=false->Zit ks (rest bs ls)=true->PlanD ks rss side bs (.tup [.str "lost",.int i])
 | pick {bs:List Bool} {t:Bool} {x:D}:bs.length<ks.length->kS (ks.getD bs.length .non)=side->PlanD ks rss side (bs++[t]) x->PlanD ks rss side bs (.tup [.str "pick",.bl t,x])
 | each {bs:List Bool} {x y:D}:bs.length<ks.length->kS (ks.getD bs.length .non) = !side->PlanD ks rss side (bs++[false]) x->PlanD ks rss side (bs++[true]) y->PlanD ks rss side bs (.tup [.str "each",x,y])
theorem w_all {p:Nat} {bs:List Bool} (g:H[p]? = some (.lst (bs.map .bl))) (q:Q (.bl (bs.all id)) H):wE (Zzi [.ref p] H) Q:=⟨_,_,Zzg g,q⟩
theorem Yaz {ks:List D} {ls:List Int} (hk:∀ d∈ks,Zcc d) (h:∀ l∈ls,0<Zan l/\Zan l<=ks.length) (hl:ls.length<=1000) (q:∀ H',Fm [] H H'->Q (.bl (Zit ks ls)) H'):wE (Zfr [.tup ks,Zaz ls] H) Q:=by
 refine Za6 rfl ?_
 show wS (Zc8 [some (.tup ks),some (Zaz ls)] H) _
 unfold Zc8 Zaz
 fail "g"
 refine Zkt (fun d=>match d with | .int l=>.bl (!kS (ks.getD (Zan l - 1).toNat .non)) | _=>.non) (fun H'=>H'=H) (fun _ _=>Ze8) _ (fun x hx H1 j=>?_) _ rfl fun H1 j=>?_
 ·obtain⟨l,hl,rfl⟩:=Xn.mp hx
  have:=h l hl
  subst j
  fail "g"
  refine w_ixT (Zgw (by omega) (Zlv hk (by omega))) ?_
  fail "g"
  refine Zhf (b:=false) ?_
  exact⟨by simp,rfl⟩
 ·subst j
  refine⟨by simp; omega,?_⟩
  fail "g"
  have e:((ls.map D.int).map fun d=>match d with | .int l=>D.bl (!kS (ks.getD (Zan l - 1).toNat .non)) | _=>.non)=(ls.map fun l => !kS (ks.getD (Zan l - 1).toNat .non)).map .bl:=by
   rw[Waw,Waw]; rfl
  rw[e]
  refine w_all last ?_
  fail "g"
  have:=q (H1++[.lst ((ls.map fun l => !kS (ks.getD (Zan l - 1).toNat .non)).map .bl)]) (Fm.app _)
  rw[List.all_map]
  exact this
theorem Zym {m:Int}:∀ (ls:List Int) (last:Int),Up m last ls->ls.length<=(m - last).toNat
 | [],_,_=>Wbm _
 | x::r,last,u=>by
  obtain⟨u1,u2,u3⟩:=u
  have:=Zym r _ u3
  simp only[Wee]
  omega
theorem Zzd {m:Int}:∀ (ls:List Int) (last:Int),0<=last->Up m last ls->∀ l∈ls,last<Zan l/\Zan l<=m
 | [],_,_,_,_,h=>by cases h
 | l::r,last,h0,u,x,h=>by
  obtain⟨u1,u2,u3⟩:=u
  rcases Xj.mp h with rfl | h
  ·exact⟨u1,u2⟩
  ·have:=Zzd r (Zan l) (by omega) u3 x h; omega
theorem Zp1 {bs:List Bool} {ls:List Int} {l:Int} (h:l∈rest bs ls):l∈ls:=(Waa.mp h).1
theorem Zs7 {ks:List D} {rss:List (List Int)} {bs:List Bool} {kvs:List (D×D)} {p:Nat} {fz:Bool} (c:Cl ks rss) (g:H[p]? = some (.dic kvs fz)) (dr:DR rss bs kvs)
  (q1:∀ (i:Nat) (ls:List Int) H',Fm [] H H'->rss[i]? = some ls->kept bs ls=false->Zit ks (rest bs ls)=true->Q (.int i) H') (q2:∀ H',Fm [] H H'->(∀ ls∈rss,kept bs ls=false->Zit ks (rest bs ls)=false)->Q .non H') :
  wE (Zdi [.tup ks,.ref p] H) Q:=by
 refine Za6 rfl ?_
 show wS (Zbq [some (.tup ks),some (.ref p),none] H) _
 unfold Zbq
 fail "g"
 refine⟨p,kvs,fz,rfl,g,?_⟩
 have lt:=(Xc.mp g).1
 have x0:Fm [] H (H.set p (.dic kvs true)):=⟨fun m o _ h=>by
  by_cases e:p=m
  ·subst e
   rw[g] at h; cases h
   cases fz
   ·exact .inr ⟨kvs,rfl,Zhu g⟩
   ·exact .inl (Zhu g)
  ·exact .inl (Zrc e h),by simp⟩
 refine Zbo (fun d t σ H'=>d++t=kvs.map (·.1)/\(∀ ls,Zaz ls∈d->Zit ks ls=false)/\Fm [] H H'/\H'[p]? = some (.dic kvs true)/\∃ b,σ=[some (.tup ks),some (.ref p),b]) (fun _ _ _ _ j=>Zot j.2.2.2.1) (fun d x t σ H1 zz=>?_) (fun d σ H1 zz=>?_) _ [] _ _ ⟨rfl,by simp,x0,Zhu g,_,rfl⟩
 ·obtain⟨i1,i2,i3,i4,b,i5⟩:=zz
  subst i5
  have hm:x∈kvs.map (·.1):=by rw[<- i1]; simp
  obtain⟨y,hy,rfl⟩:=Xn.mp hm
  obtain⟨i,ls,v1,v2,v3⟩:=dr.val y hy
  have hu:=c.hu ls (Xz v1)
  have hb:=Zzd ls 0 (Wcu _) hu
  have ek:y.1=Zaz (rest bs ls):=by rw[v3]
  rw[ek]
  have ll:(rest bs ls).length<=1000:=by
   refine Wag (Wai _ _) ?_
   have l9:=Zym ls 0 hu
   have:=c.h8
   omega
  fail "i"
  refine Yaz c.hk (fun l hl=>⟨(hb l (Zp1 hl)).1,(hb l (Zp1 hl)).2⟩) ll fun H2 x2=>?_
  refine⟨_,rfl,?_,?_⟩
  ·intro ha
   fail "g"
   obtain⟨v,ev⟩:=Wan.mp (Znd hy (k:=rest bs ls) (by rw[ek]; exact Ze6 _))
   obtain⟨z,z1,z2,z3⟩:=Zqr ev
   obtain⟨i',ls',u1,u2,u3⟩:=dr.val z z1
   have er:rest bs ls'=rest bs ls:=by rw[u3,Ze6] at z2; exact Wac.inj z2
   refine Zyl (x2.fr (by simp) i4) (Ze6 _) ev ?_
   fail "g"
   rw[<- z3,u3]
   exact q1 i' ls' H2 (i3.trans x2) u1 u2 (by rw[er]; exact ha)
  ·intro ha
   fail "g"
   refine⟨by rw[<- i1,ek]; simp,fun l hl=>?_,i3.trans x2,x2.fr (by simp) i4,_,rfl⟩
   rcases Xm.mp hl with hl | hl
   ·exact i2 l hl
   ·simp at hl; rw[Ybe hl]; exact ha
 ·obtain⟨i1,i2,i3,i4,b,i5⟩:=zz
  subst i5
  fail "g"
  refine q2 H1 i3 fun ls hl hk=>?_
  obtain⟨y,hy,ey⟩:=Zm8 (dr.all ls hl hk)
  obtain⟨i',ls',u1,u2,u3⟩:=dr.val y hy
  have er:rest bs ls'=rest bs ls:=by rw[u3,Ze6] at ey; exact Wac.inj ey
  refine i2 _ ?_
  rw[Wab] at i1
  rw[i1,<- er]
  exact Xn.mpr ⟨y,hy,by rw[u3]⟩
theorem Ybo {b:Bool} (q:Q (Zbx (!b)) H):wE (Zci [Zbx b] H) Q:=⟨_,_,Zxb b H,q⟩
theorem Zzw {ks:List D} {rss:List (List Int)} (c:Cl ks rss):∀ f:Nat,
  (∀ (j:Nat) (bs:List Bool) (kvs:List (D×D)) (p:Nat) (fz:Bool) (H:HD) (Q:D->HD->Prop),2*j+1<=f->bs.length+j=ks.length->H[p]? = some (.dic kvs fz)->DR rss bs kvs ->
   (∀ t H',PlanD ks rss (W ks rss j bs) bs t->Fm [] H H'->Q (.tup [Zbx (W ks rss j bs),t]) H')->wE ((Zei 3 4 3 7 Za0 Zar f).1 [.tup ks,.ref p,.int bs.length] H) Q) /\
  (∀ (j:Nat) (bs:List Bool) (kvs:List (D×D)) (p:Nat) (fz:Bool) (H:HD) (Q:D->HD->Prop),2*(j+1)<=f->bs.length+(j+1)=ks.length->H[p]? = some (.dic kvs fz)->DR rss bs kvs ->
   (∀ t H',PlanD ks rss (W ks rss (j+1) bs) bs t->Fm [] H H'->Q (.tup [Zbx (W ks rss (j+1) bs),t]) H')->wE ((Zei 3 4 3 7 Za0 Zar f).2 [.tup ks,.ref p,.int bs.length] H) Q):=by
 intro f
 induction f with
 | zero=>exact⟨fun j _ _ _ _ _ _ h=>by omega,fun j _ _ _ _ _ _ h=>by omega⟩
 | succ f ih =>
  obtain⟨ih1,ih2⟩:=ih
  refine⟨?_,?_⟩
  ·intro j bs kvs p fz H Q hf hj g dr q
   rw[Zei]
   dsimp only
   generalize hF1:(Zei 3 4 3 7 Za0 Zar f).1=F1 at *
   generalize hF2:(Zei 3 4 3 7 Za0 Zar f).2=F2 at *
   refine Za6 rfl ?_
   show wS (Za0 _ _ [some (.tup ks),some (.ref p),some (.int bs.length),none] H) _
   unfold Za0
   fail "i"
   refine Yc9 g ?_
   fail "g"
   refine⟨fun h=>?_,fun h=>?_⟩
   ·have e0:kvs=[]:=Wda.mp (by simp at h; simpa using h)
    subst e0
    have al:∀ ls∈rss,kept bs ls=true:=fun ls h=>by
     cases e:kept bs ls with
     | true=>rfl
     | false=>have:=dr.all ls h e; simp[Zbk] at this
    have ew:=Zua (ks:=ks) c.hu j bs al
    fail "g"
    have:=q (.tup [.str "kept"]) H (.kept ew al) Fm.refl
    rw[ew] at this; exact this
   ·fail "g"
    refine Zs7 c g dr (fun i ls H1 x1 e1 e2 e3=>?_) (fun H1 x1 hn=>?_)
    ·fail "i"
     have ew:=Zzh (Xz e1) (c.hu ls (Xz e1)) j bs hj e2 e3
     have:=q (.tup [.str "lost",.int i]) H1 (.lost ew e1 e2 e3) x1
     rw[ew] at this; exact this
    ·fail "i"
     obtain⟨fz1,g1⟩:=x1.dic (by simp) g
     match j,hj,hf,q with
     | 0,hj,_,_ =>
      exfalso
      have hne:kvs≠[]:=fun z=>by subst z; simp at h
      obtain⟨y,kr,e⟩:=List.exists_cons_of_ne_nil hne
      obtain⟨i,ls,v1,v2,v3⟩:=dr.val y (by rw[e]; simp)
      have:=hn ls (Xz v1) v2
      rw[Zwa bs (m:=ks.length) (by omega) ls 0 (c.hu ls (Xz v1))] at this
      cases this
     | j+1,hj,hf,q =>
      refine ih2 j bs kvs p fz1 H1 _ (by omega) hj g1 dr fun t H2 pt x2=>?_
      fail "g"
      exact q t H2 pt (x1.trans x2)
  ·intro j bs kvs p fz H Q hf hj g dr q
   rw[Zei]
   dsimp only
   generalize hF1:(Zei 3 4 3 7 Za0 Zar f).1=F1 at *
   generalize hF2:(Zei 3 4 3 7 Za0 Zar f).2=F2 at *
   refine Za6 rfl ?_
   show wS (Zar _ _ [some (.tup ks),some (.ref p),some (.int bs.length),none,none,none,none] H) _
   unfold Zar
   have lb:∀ t:Bool,(((bs++[t]).length:Nat):Int)=(bs.length:Int)+1:=fun t=>by simp
   have Wd:W ks rss (j+1) bs=(if W ks rss j (bs++[false])==kS (ks.getD bs.length .non)||W ks rss j (bs++[true])==kS (ks.getD bs.length .non) then kS (ks.getD bs.length .non) else !kS (ks.getD bs.length .non)):=by
    conv=>lhs; unfold W
   fail "g"
   refine w_ixT (Zcj (Zlv c.hk (by omega))) ?_
   fail "g"
   rw[k_TRUTHS]
   fail "g"
   generalize hw:kS (ks.getD bs.length .non)=who at *
   refine Zfl Ze8 ?_
   fail "g"
   refine Zqa c (appL g) dr fun kvs1 r1 H1 g1 d1 x1=>?_
   fail "g"
   rw[<- lb false]
   refine ih1 j (bs++[false]) kvs1 r1 false H1 _ (by omega) (by simp; omega) g1 d1 fun t2 H2 p2 x2=>?_
   have T2:=x2.lst (by simp) (x1.lst (by simp) last)
   fail "i"
   refine Zhf ?_
   fail "g"
   refine⟨fun h=>?_,fun h=>?_⟩
   ·fail "g"
    have ew:W ks rss (j+1) bs=who:=by rw[Wd,h]; rfl
    have e2:W ks rss j (bs++[false])=who:=by simpa using h
    rw[e2] at p2
    have:=q (.tup [.str "pick",.bl false,t2]) H2 (by rw[ew]; exact .pick (by omega) hw p2) (((Fm.app _).trans x1).trans x2)
    rw[ew] at this; exact this
   ·fail "g"
    refine⟨isl T2,?_⟩
    fail "g"
    refine Ze3 T2 (by simp) ?_
    fail "g"
    refine Zfl Ze8 ?_
    fail "g"
    obtain⟨fz3,g3⟩:=(((Fm.app _).trans x1).trans x2).dic (by simp) g
    have nq:H.length≠p:=by have:=(Xc.mp g).1; omega
    refine Zqa c (Zrc nq g3) dr fun kvs4 r4 H4 g4 d4 x4=>?_
    fail "g"
    rw[<- lb true]
    refine ih1 j (bs++[true]) kvs4 r4 false H4 _ (by omega) (by simp; omega) g4 d4 fun t5 H5 p5 x5=>?_
    have T5:=x5.lst (by simp) (x4.lst (by simp) (Zhu T2))
    have X5:Fm [] H H5:=(((Fm.app (S:=[]) [DO.lst []]).trans x1).trans x2).new (((Fm.set (S:=[H.length]) (by simp)).trans (x4.sub (by simp))).trans (x5.sub (by simp))) (by simp)
    fail "i"
    refine Zhf ?_
    fail "g"
    refine⟨fun h'=>?_,fun h'=>?_⟩
    ·fail "g"
     have ew:W ks rss (j+1) bs=who:=by rw[Wd,h,h']; rfl
     have e2:W ks rss j (bs++[true])=who:=by simpa using h'
     rw[e2] at p5
     have:=q (.tup [.str "pick",.bl true,t5]) H5 (by rw[ew]; exact .pick (by omega) hw p5) X5
     rw[ew] at this; exact this
    ·fail "g"
     refine⟨isl T5,?_⟩
     fail "g"
     refine Ze3 T5 (by simp) ?_
     fail "g"
     refine Zn5 Ze8 ?_
     fail "g"
     refine Ybo ?_
     have T6:=Zhu (o:=.lst ([]++[t2]++[t5])) T5
     fail "g"
     have ew:W ks rss (j+1) bs = !who:=by rw[Wd,h,h']; rfl
     have e2:W ks rss j (bs++[false]) = !who:=by cases who<;>cases hh:W ks rss j (bs++[false])<;>simp_all
     have e5:W ks rss j (bs++[true]) = !who:=by cases who<;>cases hh:W ks rss j (bs++[true])<;>simp_all
     rw[e2] at p2
     rw[e5] at p5
     have:=q (.tup [.str "each",t2,t5]) _ (by rw[ew]; exact .each (by omega) (by rw[hw]; simp) p2 p5) (X5.new (Fm.set (p:=H.length) (o:=.lst ([]++[t2]++[t5])) (S:=[H.length]) (by simp)) (by simp))
     rw[ew] at this; exact this
theorem Yfc {ks:List D} {rss:List (List Int)} (c:Cl ks rss) (q:∀ t H',PlanD ks rss (W ks rss ks.length []) [] t->Fm [] H H'->Q (.tup [Zbx (W ks rss ks.length []),t]) H'):wE (Zv5 [Zal ks rss] H) Q:=by
 have h8:=c.h8
 refine Za6 rfl ?_
 show wS (Zm2 [some (Zal ks rss)] H) _
 unfold Zm2
 fail "g"
 refine Yay c fun kvs r H1 g1 d1 x1=>?_
 fail "g"
 refine(Zzw c 22).1 ks.length [] kvs r false H1 _ (by omega) (by simp) g1 d1 fun t H2 pt x2=>?_
 fail "g"
 exact q t H2 pt (x1.trans x2)
theorem Yer {t:TF} {f g:SF} {σ:SD} {R:FD->SD->HD->Prop} (B:Bool) (h:wT (t σ H) fun b H'=>H'=H/\b=B) (ht:B=true->wS (f σ H) R) (hf:B=false->wS (g σ H) R):wS (sIf t f g σ H) R:=by
 obtain⟨b,H1,e,rfl,rfl⟩:=h
 exact w_if ⟨_,_,e,ht,hf⟩
theorem w_mix {cell k:Int} (h0:0<=k) (h1:k<=100) (q:∀ r H',0<=r->r<2147483648->Fm [] H H'->Q (.int r) H'):wE (Ziy [.int cell,.int k] H) Q:=by
 refine Za6 rfl ?_
 show wS (Zfe [some (.int cell),some (.int k),none,none] H) _
 unfold Zfe
 obtain⟨P,hP,hP2,eP⟩:∃ P:Int,0<P/\P<2147483648/\atI [D.int 2147483647,.int 2147483629,.int 2147483587,.int 2147483579,.int 2147483563,.int 2147483549,.int 2147483543] (k % 7)=some (.int P):=by
  rcases(show k % 7=0\/k % 7=1\/k % 7=2\/k % 7=3\/k % 7=4\/k % 7=5\/k % 7=6 by omega) with h | h | h | h | h | h | h<;>rw[h]
  ·exact⟨2147483647,by omega,by omega,rfl⟩
  ·exact⟨2147483629,by omega,by omega,rfl⟩
  ·exact⟨2147483587,by omega,by omega,rfl⟩
  ·exact⟨2147483579,by omega,by omega,rfl⟩
  ·exact⟨2147483563,by omega,by omega,rfl⟩
  ·exact⟨2147483549,by omega,by omega,rfl⟩
  ·exact⟨2147483543,by omega,by omega,rfl⟩
 fail "g"
 refine w_ixR last eP ?_
 fail "g"
 have c0:=Wbf cell (show (998244353:Int)≠0 by decide)
 have c1:=Was cell (show (0:Int)<998244353 by decide)
 generalize cell % 998244353=c at *
 refine w_mulL (by omega) (by omega) ?_
 fail "g"
 refine w_mulL (by omega) (by omega) ?_
 fail "g"
 refine w_mod hP ?_
 have a0:=Wbf ((c+104729*(k+1))*(k*k+7*k+13)) (show P≠0 by omega)
 have a1:=Was ((c+104729*(k+1))*(k*k+7*k+13)) hP
 generalize (c+104729*(k+1))*(k*k+7*k+13) % P=a at *
 fail "g"
 refine Ybx (by decide) (by decide) (by omega) ?_
 fail "g"
 have b0:=Wbf (a ^ (5:Int).toNat) (show (1000000007:Int)≠0 by decide)
 have b1:=Was (a ^ (5:Int).toNat) (show (0:Int)<1000000007 by decide)
 generalize a ^ (5:Int).toNat % 1000000007=b at *
 refine w_mod hP ?_
 have d0:=Wbf (b*48271+31*k+5) (show P≠0 by omega)
 have d1:=Was (b*48271+31*k+5) hP
 generalize (b*48271+31*k+5) % P=d at *
 fail "g"
 refine Ybx (by decide) (by decide) (by omega) ?_
 fail "g"
 have e0:=Wbf (d ^ (3:Int).toNat) (show (998244353:Int)≠0 by decide)
 have e1:=Was (d ^ (3:Int).toNat) (show (0:Int)<998244353 by decide)
 generalize d ^ (3:Int).toNat % 998244353=e at *
 exact q _ _ (by omega) (by omega) (Fm.app _)
def Zwx (ds:List Int):Prop:=∀ d∈ds,0<=d/\d<2147483648
theorem Zim {cell:Int} {many:Nat} (h1:many<=100) (q:∀ (ds:List Int) p H',ds.length=many->Zwx ds->H'[p]? = some (.lst (ds.map .int))->H.length<=p->Fm [] H H'->Q (.ref p) H'):wE (Zch [.int cell,.int many] H) Q:=by
 refine Za6 rfl ?_
 show wS (Zdd [some (.int cell),some (.int many),none,none,none,none] H) _
 unfold Zdd
 fail "g"
 refine Ybx (by decide) (by decide) (by decide) ?_
 fail "g"
 generalize decide ((10:Int) ^ (18:Int).toNat<=Zan cell)=wide
 refine⟨_,rfl,⟨by omega,by omega⟩,?_⟩
 rw[show ((many:Int)).toNat=many by omega]
 refine Zbo (fun d t σ H'=>d++t=Zba 0 many/\∃ (ds:List Int) (L:Int) (z5:Option D),ds.length=d.length/\Zwx ds/\H'[H.length]? = some (.lst (ds.map .int))/\Fm [H.length] (H++[.lst []]) H'/\0<=L/\σ=[some (.int cell),some (.int many),some (.ref H.length),some (.int L),some (.bl wide),z5]) (fun _ _ _ _ _=>Ze8) (fun d x t σ H1 ⟨e0,ds,L,z5,e1,e2,e3,x1,hL,e5⟩=>?_) (fun d σ H1 ⟨e0,ds,L,z5,e1,e2,e3,x1,hL,e5⟩=>?_) _ [] _ _ ⟨rfl,[],Zan cell,_,rfl,(by intro d h; cases h),last,Fm.refl,(by unfold Zan; split<;>omega),rfl⟩
 ·subst e5
  have hx:x∈Zba 0 many:=by rw[<- e0]; simp
  simp only[Zba,Xn,Wbk] at hx
  obtain⟨i,hi,rfl⟩:=hx
  have hd:d.length<=100:=by
   have:=congrArg Wbo e0
   simp[Zba] at this
   omega
  fail "g"
  refine Yer (wide&&decide (0<L)) ?_ (fun h=>?_) (fun h=>?_)
  ·fail "g"
   cases wide
   ·exact⟨(fun z=>nomatch z),fun _=>⟨rfl,rfl⟩⟩
   ·refine⟨fun _=>?_,(fun z=>nomatch z)⟩
    fail "g"
    exact⟨rfl,by simp⟩
  ·fail "g"
   refine⟨isl e3,?_⟩
   fail "g"
   refine Ze3 e3 (by simp; omega) ?_
   fail "g"
   have m0:=Wbf L (show (10007:Int)≠0 by decide)
   have m1:=Was L (show (0:Int)<10007 by decide)
   refine⟨by rw[<- e0]; simp,ds++[L % 10007],L / 10007,_,by simp[e1],?_,?_,x1.trans (Fm.set (by simp)),Int.ediv_nonneg hL (by decide),rfl⟩
   ·intro y hy
    rcases Xm.mp hy with h | h
    ·exact e2 y h
    ·simp at h; subst h; exact⟨m0,by omega⟩
   ·rw[Waj]; exact Zhu e3
  ·fail "g"
   refine⟨isl e3,?_⟩
   fail "g"
   refine w_mix (by omega) (by omega) fun r H2 r0 r1 x2=>?_
   fail "g"
   have e3':=x2.lst (by simp) e3
   refine Ze3 e3' (by simp; omega) ?_
   fail "g"
   refine⟨by rw[<- e0]; simp,ds++[r],L,_,by simp[e1],?_,?_,(x1.trans (x2.sub (by simp))).trans (Fm.set (by simp)),hL,rfl⟩
   ·intro y hy
    rcases Xm.mp hy with h | h
    ·exact e2 y h
    ·simp at h; subst h; exact⟨r0,r1⟩
   ·rw[Waj]; exact Zhu e3'
 ·subst e5
  have hd:d.length=many:=by
   have:=congrArg Wbo e0
   simpa [Zba] using this
  fail "g"
  exact q ds _ H1 (by omega) e2 e3 (Xd _) ((Fm.app (S:=[]) _).new x1 (by intro m hm _; simp at hm; omega))
theorem Zdg {p:Nat} {ds:List Int} {i:Int} (g:H[p]? = some (.lst (ds.map .int))) (hd:Zwx ds) (h0:0<=i) (h1:i<ds.length) (q:∀ r,0<=r->r<2147483648->Q (.int r) H):wE (ixD (.ref p) (.int i) H) Q:=by
 have lt:i.toNat<ds.length:=by omega
 have hm:=hd _ (Xy lt)
 exact w_ixR g (Zgw h0 (d:=.int ds[i.toNat]) (by rw[Xr,Xg lt]; rfl)) (q _ hm.1 hm.2)
theorem Zy0 {r:Int} (h0:0<=r) (h1:r<2):∃ k,Zcc k/\atI [D.str "all",.str "some"] r=some k:=by
 rcases(show r=0\/r=1 by omega) with rfl | rfl
 ·exact⟨_,.inl rfl,rfl⟩
 ·exact⟨_,.inr rfl,rfl⟩
theorem Ye7 {r:Int} (h0:0<=r) (h1:r<2):∃ k,Zcc k/\atI [D.str "some",.str "all"] r=some k:=by
 rcases(show r=0\/r=1 by omega) with rfl | rfl
 ·exact⟨_,.inr rfl,rfl⟩
 ·exact⟨_,.inl rfl,rfl⟩
theorem mod2 (r:Int):0<=r % 2/\r % 2<2:=by omega
theorem Yar {p:Nat} {ds:List Int} {many:Nat} (g:H[p]? = some (.lst (ds.map .int))) (hd:Zwx ds) (hl:many+1<=ds.length) (h100:many<=100) (q:∀ ks H',(∀ d∈ks,Zcc d)->ks.length=many->Fm [] H H'->Q (.tup ks) H'):wE (Zgn [.ref p,.int many] H) Q:=by
 refine Za6 rfl ?_
 show wS (Zdq [some (.ref p),some (.int many),none,none,none] H) _
 unfold Zdq
 fail "g"
 have hp:p<H.length:=(Xc.mp g).1
 refine⟨_,rfl,⟨by omega,by omega⟩,?_⟩
 rw[show ((many:Int)).toNat=many by omega]
 refine Zbo (fun d t σ H'=>d++t=Zba 0 many/\∃ (ks:List D) (z3 z4:Option D),ks.length=d.length/\(∀ d∈ks,Zcc d)/\H'[H.length]? = some (.lst ks)/\Fm [H.length] (H++[.lst []]) H'/\σ=[some (.ref p),some (.int many),some (.ref H.length),z3,z4]) (fun _ _ _ _ _=>Ze8) (fun d x t σ H1 zz=>?_) (fun d σ H1 zz=>?_) _ [] _ _ ⟨rfl,[],_,_,rfl,(by intro d h; cases h),last,Fm.refl,rfl⟩
 ·obtain⟨e0,ks,z3,z4,e1,e2,e3,x1,e5⟩:=zz
  subst e5
  have hx:x∈Zba 0 many:=by rw[<- e0]; simp
  simp only[Zba,Xn,Wbk] at hx
  obtain⟨i,hi,rfl⟩:=hx
  have hdl:d.length<=100:=by
   have:=congrArg Wbo e0
   simp[Zba] at this
   omega
  have gp:H1[p]? = some (.lst (ds.map .int)):=x1.lst (by simp; omega) (appL g)
  have Jn:∀ (L:List D) {H2:HD},Fm [H.length] (H++[.lst []]) H2->H2[p]? = some (.lst (ds.map .int))->H2[H.length]? = some (.lst ks)->Fm [H.length] (H++[.lst []]) (H2++[.lst L])/\(H2++[.lst L])[p]? = some (.lst (ds.map .int))/\(H2++[.lst L])[H.length]? = some (.lst ks):=fun L H2 a b c=>⟨a.trans (Fm.app _),appL b,appL c⟩
  refine w_gnm (w_seq ?_)
  refine Zub (fun σ H2=>(Fm [H.length] (H++[.lst []]) H2/\H2[p]? = some (.lst (ds.map .int))/\H2[H.length]? = some (.lst ks))/\∃ k,Zcc k/\σ=[some (.ref p),some (.int many),some (.ref H.length),some (.int (0+i)),some k]) ?_ ?_
  ·fail "g"
   refine Zdg (appL gp) hd (by omega) (by omega) fun r r0 r1=>?_
   fail "g"
   obtain⟨k,hk,ek⟩:=Zy0 (mod2 r).1 (mod2 r).2
   refine w_ixR last ek ?_
   exact⟨rfl,Jn _ x1 gp e3,k,hk,rfl⟩
  rintro _ H2 ⟨⟨x2,g2,e4⟩,k,hk,rfl⟩
  refine w_seq (Zub (fun σ H2=>(Fm [H.length] (H++[.lst []]) H2/\H2[p]? = some (.lst (ds.map .int))/\H2[H.length]? = some (.lst ks))/\∃ k,Zcc k/\σ=[some (.ref p),some (.int many),some (.ref H.length),some (.int (0+i)),some k]) ?_ ?_)
  ·(refine WP.w_if ?_; fail "g")
   refine Zdg g2 hd (by omega) (by omega) fun r r0 r1=>?_
   fail "g"
   refine⟨fun h=>?_,fun h=>?_⟩
   ·fail "g"
    refine Zdg (appL g2) hd (by omega) (by omega) fun r' r0' r1'=>?_
    fail "g"
    obtain⟨k2,hk2,ek2⟩:=Ye7 (mod2 (0+(i:Int)+r')).1 (mod2 _).2
    refine w_ixR last ek2 ?_
    fail "g"
    exact⟨rfl,Jn _ x2 g2 e4,k2,hk2,rfl⟩
   ·fail "g"
    exact⟨rfl,⟨x2,g2,e4⟩,k,hk,rfl⟩
  rintro _ H3 ⟨⟨x3,g3,e6⟩,k,hk,rfl⟩
  refine w_seq (Zub (fun σ H2=>(Fm [H.length] (H++[.lst []]) H2/\H2[p]? = some (.lst (ds.map .int))/\H2[H.length]? = some (.lst ks))/\∃ k,Zcc k/\σ=[some (.ref p),some (.int many),some (.ref H.length),some (.int (0+i)),some k]) ?_ ?_)
  ·(refine WP.w_if ?_; fail "g")
   refine Zdg g3 hd (by omega) (by omega) fun r r0 r1=>?_
   fail "g"
   refine⟨fun h=>?_,fun h=>?_⟩
   ·fail "g"
    refine Zdg (appL g3) hd (by omega) (by omega) fun r' r0' r1'=>?_
    fail "g"
    obtain⟨k2,hk2,ek2⟩:=Zy0 (r:=if decide (0<r' % 3)=true then 1 else 0) (by split<;>omega) (by split<;>omega)
    refine w_ixR last ek2 ?_
    fail "g"
    exact⟨rfl,Jn _ x3 g3 e6,k2,hk2,rfl⟩
   ·fail "g"
    exact⟨rfl,⟨x3,g3,e6⟩,k,hk,rfl⟩
  rintro _ H4 ⟨⟨x4,g4,e7⟩,k,hk,rfl⟩
  fail "g"
  refine⟨isl e7,?_⟩
  fail "g"
  refine Ze3 e7 (by omega) ?_
  fail "g"
  refine⟨by rw[<- e0]; simp,ks++[k],_,_,by simp[e1],?_,Zhu e7,x4.trans (Fm.set (by simp)),rfl⟩
  intro y hy
  rcases Xm.mp hy with h | h
  ·exact e2 y h
  ·simp at h; subst h; exact hk
 ·obtain⟨e0,ks,z3,z4,e1,e2,e3,x1,e5⟩:=zz
  subst e5
  have hdl:d.length=many:=by
   have:=congrArg Wbo e0
   simpa [Zba] using this
  fail "g"
  exact q ks H1 e2 (by omega) ((Fm.app (S:=[]) _).new x1 (by intro m hm _; simp at hm; omega))
theorem Zum {m:Int}:∀ (ls:List Int) (last l:Int),Up m last ls->(∀ x∈ls,Zan x<Zan l)->last<Zan l->Zan l<=m->Up m last (ls++[l])
 | [],last,l,_,_,h1,h2=>⟨h1,h2,trivial⟩
 | x::r,last,l,u,h,h1,h2=>by
  obtain⟨u1,u2,u3⟩:=u
  exact⟨u1,u2,Zum r (Zan x) l u3 (fun y hy=>h y (by simp[hy])) (h x (by simp)) h2⟩
theorem Zn2 (lo:Int) (m:Nat):Zba lo (m+1)=.int lo::Zba (lo+1) m:=by
 unfold Zba
 rw[Wei,Xl,Waw]
 have e0:D.int (lo+((0:Nat):Int))=.int lo:=by simp
 rw[e0]
 refine congrArg (Wbe _) (Wdq fun a _=>?_)
 show D.int _=D.int _
 congr 1
 omega
theorem Zz7 {cell:Int} {M:Nat} {wide:Int} (hM:M<=8) (q:∀ ls H',Up M 0 ls->Fm [] H H'->Q (Zaz ls) H'):wE (Ziq [.int cell,.int M,.int wide] H) Q:=by
 refine Za6 rfl ?_
 show wS (Zfk [some (.int cell),some (.int M),some (.int wide),none,none,none] H) _
 unfold Zfk
 fail "g"
 rw[show (M:Int)+1=((M+1:Nat):Int) by omega]
 refine Zim (by omega) fun ds p H1 l1 d1 g1 n1 x1=>?_
 fail "g"
 refine⟨_,rfl,⟨by omega,by omega⟩,?_⟩
 rw[Waf]
 refine Zbo (fun d t σ H'=>∃ ls:List Int,t=Zba (d.length:Int) (M - d.length)/\H'[p]? = some (.lst (ds.map .int))/\H'[H1.length]? = some (.lst (ls.map .int))/\ls.length<=d.length/\d.length<=M/\Up M 0 ls/\(∀ x∈ls,Zan x<=d.length)/\Fm [] H H'/\∃ z,σ=[some (.int cell),some (.int M),some (.int wide),some (.ref p),some (.ref H1.length),z]) (fun _ _ _ _ _=>Ze8) (fun d x t σ H2 zz=>?_) (fun d σ H2 zz=>?_) _ [] _ _ ⟨[],by simp,appL g1,last,by simp,by simp,trivial,by simp,x1.trans (Fm.app _),none,rfl⟩
 ·obtain⟨ls,i1,i2,i3,i4,i5,i6,i7,i8,z,i9⟩:=zz
  subst i9
  obtain⟨k,hk⟩:∃ k,M - d.length=k+1:=by
   cases h:M - d.length with
   | zero=>rw[h] at i1; simp[Zba] at i1
   | succ k=>exact⟨k,rfl⟩
  rw[hk,Zn2] at i1
  obtain⟨rfl,rfl⟩:=Wbe.inj i1
  have tl:Zba ((d.length:Int)+1) k=Zba (((d++[D.int (d.length:Int)]).length:Nat):Int) (M - (d++[D.int (d.length:Int)]).length):=by
   simp only[Xq,Wee,Wbu]
   congr 1
   omega
  fail "i"
  refine Zdg i2 d1 (by omega) (by omega) fun r r0 r1=>?_
  fail "g"
  refine w_mod (by omega) ?_
  fail "g"
  refine Zdg i2 d1 (by omega) (by omega) fun r' r0' r1'=>?_
  fail "g"
  refine⟨fun h=>?_,fun h=>?_⟩
  ·fail "g"
   refine⟨isl i3,?_⟩
   fail "g"
   refine Zdg (appL i2) d1 (by omega) (by omega) fun r2 r20 r21=>?_
   fail "g"
   refine w_fdiv (by omega) (by omega) ?_
   fail "g"
   have m2:r2 / ((M:Int)+1) % 2=0\/r2 / ((M:Int)+1) % 2=1:=by omega
   obtain⟨l,hl,el⟩:∃ l:Int,Zan l=(d.length:Int)+1/\atI [D.int ((d.length:Int)+1),.int (0 - (d.length:Int) - 1)] (r2 / ((M:Int)+1) % 2)=some (.int l):=by
    rcases m2 with z | z<;>rw[z]
    ·exact⟨_,by unfold Zan; split<;>omega,rfl⟩
    ·exact⟨_,by unfold Zan; split<;>omega,rfl⟩
   refine w_ixR last el ?_
   fail "g"
   refine Ze3 (appL i3) (by simp; omega) ?_
   fail "g"
   have np:H1.length≠p:=by have:=(Xc.mp g1).1; omega
   refine⟨ls++[l],tl,Zrc np (appL i2),by rw[Zhu (appL i3)]; simp,by simp; omega,by simp; omega,Zum ls 0 l i6 (fun x hx=>by have:=i7 x hx; omega) (by omega) (by omega),fun x hx=>?_,?_,_,rfl⟩
   ·rcases Xm.mp hx with z | z
    ·have:=i7 x z; simp; omega
    ·simp at z; subst z; simp; omega
   ·exact(i8.trans (Fm.app _)).new (Fm.set (S:=[H1.length]) (by simp)) (fun q hq _=>by simp at hq; subst hq; exact x1.len)
  ·fail "g"
   exact⟨ls,tl,i2,i3,by simp; omega,by simp; omega,i6,fun x hx=>by have:=i7 x hx; simp; omega,i8,_,rfl⟩
 ·obtain⟨ls,i1,i2,i3,i4,i5,i6,i7,i8,z,i9⟩:=zz
  subst i9
  fail "g"
  exact q ls H2 i6 i8
nonrec def Zd1 (ks:List D) (x:Int):Bool:=kS (ks.getD ((Zan x).toNat - 1) .non)
nonrec def Zbj (ks:List D):List Int->List Int
 | []=>[]
 | l::r=>if (l::r).all (Zd1 ks)=true then [] else l::Zbj ks r
theorem Zne (ks:List D):∀ b:List Int,(∀ x∈b,Zd1 ks x=true)->Zbj ks b=[]
 | [],_=>rfl
 | x::r,h=>by rw[Zbj,if_pos (Xs.mpr h)]
theorem Zi7 (ks:List D):∀ (a b:List Int),(∀ x∈b,Zd1 ks x=true)->(∀ x,a.getLast? = some x->Zd1 ks x=false)->Zbj ks (a++b)=a
 | [],b,hb,_=>Zne ks b hb
 | l::a,b,hb,ha=>by
  have hx:=ha _ Wdw
  have hm:a.getLast?.getD l∈l::a:=Wdm (Wdw (a:=l) (l:=a))
  have hn:¬ ((l::(a++b)).all (Zd1 ks)=true):=fun z=>by
   have:=Xs.mp z _ (by rw[<- Wbv]; exact Wak _ hm)
   rw[hx] at this; cases this
  rw[Wbv,Zbj,if_neg hn,Zi7 ks a b hb fun x h=>ha x (by rw[Wdw,h]; rfl)]
theorem Zg5 (ks:List D):∀ a:List Int,(Zbj ks a).Sublist a
 | []=>.slnil
 | l::r=>by
  rw[Zbj]
  split
  ·exact List.nil_sublist _
  ·exact(Zg5 ks r).cons₂ l
structure R (M:Nat) (ls:List Int):Prop where
 nd:(ls.map Zan).Nodup
 rg:∀ x∈ls,1<=Zan x/\Zan x<=M
theorem R.sub {M:Nat} {a b:List Int} (h:R M b) (s:a.Sublist b):R M a:=⟨(s.map Zan).nodup h.nd,fun x hx=>h.rg x (s.subset hx)⟩
theorem R.perm {M:Nat} {a b:List Int} (h:R M b) (s:a.Perm b):R M a:=⟨(s.map Zan).nodup_iff.mpr h.nd,fun x hx=>h.rg x (s.mem_iff.mp hx)⟩
theorem Zzl:∀ (M:Nat) (l:List Int),l.Nodup->(∀ x∈l,1<=x/\x<=(M:Int))->l.length<=M
 | 0,[],_,_=>Xd _
 | 0,x::r,_,h=>by have:=h x (by simp); omega
 | M+1,l,nd,h=>by
  have:=Zzl M (l.erase ((M:Int)+1)) (nd.erase _) fun x hx=>by
   have h1:=h x (List.mem_of_mem_erase hx)
   have h2:x≠(M:Int)+1:=fun z=>by subst z; exact(List.Nodup.not_mem_erase nd) hx
   omega
  have h3:=List.length_erase (a:=(M:Int)+1) (l:=l)
  split at h3<;>omega
theorem R.len {M:Nat} {ls:List Int} (h:R M ls):ls.length<=M:=by
 have:=Zzl M (ls.map Zan) h.nd fun x hx=>by
  obtain⟨y,hy,rfl⟩:=Xn.mp hx
  exact h.rg y hy
 simpa using this
theorem R.inj {M:Nat} {ls:List Int} (h:R M ls) {x y:Int} (hx:x∈ls) (hy:y∈ls) (e:Zan x=Zan y):x=y:=by
 obtain⟨i,hi,rfl⟩:=Wcq.mp hx
 obtain⟨j,hj,rfl⟩:=Wcq.mp hy
 have:=(Wfq (xs:=ls.map Zan) (i:=i) (j:=j) (h₀:=by simpa using hi) (h₁:=by simpa using hj) h.nd).mp (by simpa using e)
 subst this; rfl
theorem Zlw {M:Nat}:∀ {ls:List Int} {last:Int},0<=last->Up M last ls->R M ls/\∀ x∈ls,last<Zan x
 | [],_,_,_=>⟨⟨.nil,by simp⟩,by simp⟩
 | l::r,last,h0,u=>by
  obtain⟨u1,u2,u3⟩:=u
  obtain⟨h1,h2⟩:=Zlw (by omega) u3
  refine⟨⟨?_,fun x hx=>?_⟩,fun x hx=>?_⟩
  ·rw[Xl,Wav]
   refine⟨fun z=>?_,h1.nd⟩
   obtain⟨y,hy,e⟩:=Xn.mp z
   have:=h2 y hy
   omega
  ·rcases Xj.mp hx with rfl | hx
   ·omega
   ·exact h1.rg x hx
  ·rcases Xj.mp hx with rfl | hx
   ·exact u1
   ·have:=h2 x hx; omega
theorem Zhn (x:Int):Zan (-x)=Zan x:=by unfold Zan; split<;>split<;>omega
theorem Zk8 {x y:Int} (h:Zan x=Zan y):x=y\/x = -y:=by unfold Zan at h; split at h<;>split at h<;>omega
nonrec def Zeg (a b:List Int) (n:Int):Option (List Int) :=
 if n∉a \/ -n∉b then none
 else if (b.filter fun x=>decide (x ≠ -n)).any (fun x=>decide (-x∈a.filter fun x=>decide (x≠n)))=true then none
 else some (Zda ((a.filter fun x=>decide (x≠n))++(b.filter fun x=>decide (x ≠ -n)).filter fun x=>decide (x∉a.filter fun x=>decide (x≠n))))
theorem R.join0 {M:Nat} {a b:List Int} (ha:R M a) (hb:R M b) (h:b.any (fun x=>decide (-x∈a))=false):R M (a++b.filter fun x=>decide (x∉a)):=by
 have hb':=hb.sub (Wax (p:=fun x=>decide (x∉a)) (l:=b))
 refine⟨?_,fun x hx=>?_⟩
 ·rw[Waj,Waq]
  refine⟨ha.nd,hb'.nd,fun x hx y hy e=>?_⟩
  obtain⟨u,hu,rfl⟩:=Xn.mp hx
  obtain⟨v,hv,rfl⟩:=Xn.mp hy
  obtain⟨hv1,hv2⟩:=Waa.mp hv
  rcases Zk8 e with z | z
  ·rw[z] at hu
   exact(of_decide_eq_true hv2) hu
  ·have:=Wco.mp h v hv1
   rw[z] at hu
   exact this (decide_eq_true hu)
 ·rcases Xm.mp hx with z | z
  ·exact ha.rg x z
  ·exact hb'.rg x z
theorem R.join {M:Nat} {a b c:List Int} {n:Int} (ha:R M a) (hb:R M b) (h:Zeg a b n=some c):R M c:=by
 unfold Zeg at h
 split at h
 ·cases h
 ·split at h
  ·cases h
  ·rename_i h2
   cases h
   exact(R.join0 (ha.sub Wax) (hb.sub Wax) (by simpa using h2)).perm (Zbv _)
nonrec def Yas (m:Int):Int->List D->Bool
 | _,[]=>true
 | last,.int i::r=>decide (last<Zan i)&&decide (Zan i<=m)&&Yas m (Zan i) r
 | _,_::_=>false
nonrec def Zl6 (d:D):Int:=match d with
 | .int i=>i
 | _=>0
nonrec def comB (row ls:List Int):Bool:=row.any fun l=>decide (l∈ls)
nonrec def Zse (ks:List D) (rss:List (List Int)) (d:D):Option (List Int):=match d with
 | .tup xs=>if Yas ks.length 0 xs=true/\(rss.all fun row=>comB row (xs.map Zl6))=true then some (xs.map Zl6) else none
 | _=>none
theorem Znz {m:Int}:∀ {xs:List D} {last:Int},Yas m last xs=true->xs=(xs.map Zl6).map .int/\Up m last (xs.map Zl6)
 | [],_,_=>⟨rfl,trivial⟩
 | .int i::r,last,h=>by
  rw[Yas,Wah,Wah,decide_eq_true_iff,decide_eq_true_iff] at h
  obtain⟨e,u⟩:=Znz h.2
  refine⟨?_,h.1.1,h.1.2,u⟩
  rw[Xl,Xl,<- e]
  rfl
 | .non::r,_,h=>by cases h
 | .bl _::r,_,h=>by cases h
 | .str _::r,_,h=>by cases h
 | .ty _::r,_,h=>by cases h
 | .tup _::r,_,h=>by cases h
 | .fl _::r,_,h=>by cases h
 | .ref _::r,_,h=>by cases h
theorem Znn {m:Int}:∀ {ls:List Int} {last:Int},Up m last ls->Yas m last (ls.map .int)=true
 | [],_,_=>rfl
 | l::r,last,h=>by
  obtain⟨h1,h2,h3⟩:=h
  rw[Xl,Yas,decide_eq_true h1,decide_eq_true h2,Znn h3]
  rfl
theorem Zx4 (ls:List Int):(ls.map D.int).map Zl6=ls:=by rw[Waw]; exact Wfo ls
theorem Zk2 {ks:List D} {rss:List (List Int)} {d:D} {ls:List Int} (h:Zse ks rss d=some ls):d=Zaz ls/\Up ks.length 0 ls:=by
 unfold Zse at h
 split at h
 ·split at h
  ·rename_i xs hc
   cases h
   obtain⟨e,u⟩:=Znz hc.1
   exact⟨congrArg D.tup e,u⟩
  ·cases h
 ·cases h
theorem Zuo {ks:List D} {rss:List (List Int)} {ls:List Int} (u:Up ks.length 0 ls) (h:∀ row∈rss,∃ l∈row,l∈ls):Zse ks rss (Zaz ls)=some ls:=by
 show (if Yas ks.length 0 (ls.map D.int)=true/\(rss.all fun row=>comB row ((ls.map D.int).map Zl6))=true then some ((ls.map D.int).map Zl6) else none)=some ls
 rw[Zx4,if_pos]
 refine⟨Znn u,Xs.mpr fun row hr=>?_⟩
 obtain⟨l,h1,h2⟩:=h row hr
 exact Wau.mpr ⟨l,h1,decide_eq_true h2⟩
nonrec def stp (ks:List D) (rss made:List (List Int)) (d:D):Option (List Int):=match d with
 | .tup [.str s,b]=>if s = "less" then (match b with
   | .int i=>if 0<=i/\i<made.length then some (Zbj ks (made.getD i.toNat [])) else none
   | _=>none)
  else if s = "term" then Zse ks rss b else none
 | .tup [.str s,.int i,.int j,.int n]=>if s = "joined" /\ (0<=i/\i<made.length)/\(0<=j/\j<made.length)/\(1<=n/\n<=ks.length)/\Zd1 ks n=false then Zeg (made.getD i.toNat []) (made.getD j.toNat []) n else none
 | _=>none
nonrec def mad (ks:List D) (rss:List (List Int)):List (List Int)->List D->List (List Int)
 | made,[]=>made
 | made,d::r=>match stp ks rss made d with
  | none=>made
  | some x=>mad ks rss (made++[x]) r
nonrec def mok (ks:List D) (rss:List (List Int)):List (List Int)->List D->Bool
 | _,[]=>true
 | made,d::r=>match stp ks rss made d with
  | none=>false
  | some x=>mok ks rss (made++[x]) r
theorem Zkd (ks:List D) (rss:List (List Int)):∀ (ds:List D) (made:List (List Int)),mok ks rss made ds=true->(mad ks rss made ds).length=made.length+ds.length
 | [],made,_=>rfl
 | d::r,made,h=>by
  unfold mok at h
  unfold mad
  cases e:stp ks rss made d with
  | none=>rw[e] at h; cases h
  | some x =>
   rw[e] at h
   simp only
   rw[Zkd ks rss r _ h]
   simp; omega
theorem Zis (ks:List D) (rss:List (List Int)):∀ (a b:List D) (made:List (List Int)),mok ks rss made (a++b)=(mok ks rss made a&&mok ks rss (mad ks rss made a) b)
 | [],b,made=>rfl
 | d::r,b,made=>by
  rw[Wbv]
  cases e:stp ks rss made d with
  | none=>simp only[mok,e,Wga]
  | some x=>simp only[mok,mad,e]; exact Zis ks rss r b _
theorem Zlc (ks:List D) (rss:List (List Int)):∀ (a b:List D) (made:List (List Int)),mok ks rss made a=true->mad ks rss made (a++b)=mad ks rss (mad ks rss made a) b
 | [],b,made,_=>rfl
 | d::r,b,made,h=>by
  rw[Wbv]
  cases e:stp ks rss made d with
  | none=>simp only[mok,e] at h; cases h
  | some x=>simp only[mok,e] at h; simp only[mad,e]; exact Zlc ks rss r b _ h
theorem stp_R {ks:List D} {rss made:List (List Int)} {d:D} {x:List Int} (hr:∀ ls∈rss,R ks.length ls) (hm:∀ ls∈made,R ks.length ls) (h:stp ks rss made d=some x):R ks.length x:=by
 have get:∀ {l:List (List Int)} {i:Int},(∀ ls∈l,R ks.length ls)->0<=i/\i<l.length->R ks.length (l.getD i.toNat []):=fun hl hi=>by
  refine hl _ ?_
  rw[Xx,Xg (by omega)]
  exact Xy _
 unfold stp at h
 split at h
 ·split at h
  ·split at h
   ·split at h
    ·rename_i hi; cases h; exact(get hm hi).sub (Zg5 ks _)
    ·cases h
   ·cases h
  ·split at h
   ·exact(Zlw (by omega) (Zk2 h).2).1
   ·cases h
 ·split at h
  ·rename_i hc; exact R.join (get hm hc.2.1) (get hm hc.2.2.1) h
  ·cases h
 ·cases h
theorem Ztj {ks:List D} {rss:List (List Int)} (hr:∀ ls∈rss,R ks.length ls):∀ (ds:List D) (made:List (List Int)),(∀ ls∈made,R ks.length ls)->∀ ls∈mad ks rss made ds,R ks.length ls
 | [],made,hm=>hm
 | d::r,made,hm=>by
  unfold mad
  cases e:stp ks rss made d with
  | none=>exact hm
  | some x =>
   refine Ztj hr r _ fun ls h=>?_
   rcases Xm.mp h with z | z
   ·exact hm ls z
   ·simp at z; subst z; exact stp_R hr hm e
inductive St (ks:List D) (rss made:List (List Int)):D->List Int->Prop
 | less (i:Nat) (h:i<made.length):St ks rss made (.tup [.str "less",.int i]) (Zbj ks made[i])
 | row (ls:List Int) (u:Up ks.length 0 ls) (h:∀ row∈rss,∃ l∈row,l∈ls):St ks rss made (.tup [.str "term",Zaz ls]) ls
 | joined (i j:Nat) (n:Int) (x:List Int) (hi:i<made.length) (hj:j<made.length) (hn:1<=n/\n<=ks.length) (ho:Zd1 ks n=false) (e:Zeg made[i] made[j] n=some x):St ks rss made (.tup [.str "joined",.int i,.int j,.int n]) x
theorem getI {l:List (List Int)} {i:Int} (h:0<=i/\i<l.length):∃ j:Nat,∃ hj:j<l.length,i=j/\l.getD i.toNat []=l[j]:=by
 refine⟨i.toNat,by omega,by omega,?_⟩
 rw[Xx,Xg (by omega)]
 rfl
theorem Zwc {ks:List D} {rss:List (List Int)} {d:D} {ls:List Int} (h:Zse ks rss d=some ls):∀ row∈rss,∃ l∈row,l∈ls:=by
 unfold Zse at h
 split at h
 ·split at h
  ·rename_i xs hc
   cases h
   intro row hr
   obtain⟨l,h1,h2⟩:=Wau.mp (Xs.mp hc.2 row hr)
   exact⟨l,h1,of_decide_eq_true h2⟩
  ·cases h
 ·cases h
theorem St.of {ks:List D} {rss made:List (List Int)} {d:D} {x:List Int} (h:stp ks rss made d=some x):St ks rss made d x:=by
 unfold stp at h
 split at h
 ·split at h
  ·split at h
   ·split at h
    ·rename_i hs _ _ hi
     obtain⟨j,hj,rfl,e⟩:=getI hi
     rw[e] at h
     cases h
     subst hs
     exact .less j hj
    ·cases h
   ·cases h
  ·split at h
   ·rename_i hs
    subst hs
    obtain⟨rfl,u⟩:=Zk2 h
    exact .row x u (Zwc h)
   ·cases h
 ·split at h
  ·rename_i hc
   obtain⟨rfl,h1,h2,h3,h4⟩:=hc
   obtain⟨i,hi,rfl,e1⟩:=getI h1
   obtain⟨j,hj,rfl,e2⟩:=getI h2
   rw[e1,e2] at h
   exact .joined i j _ x hi hj h3 h4 h
  ·cases h
 ·cases h
theorem Zqs:∀ l:List Int,l.Pairwise (· <= ·)->l.Nodup->l.Pairwise (· < ·)
 | [],_,_=>.nil
 | x::r,p,nd=>by
  rw[Wdu] at p ⊢
  rw[Wav] at nd
  refine⟨fun y hy=>?_,Zqs r p.2 nd.2⟩
  have:=p.1 y hy
  have:x≠y:=fun z=>nd.1 (z ▸ hy)
  omega
theorem Zil {M:Nat} {fs:List Int} (h:R M fs):Up M 0 (Zda fs):=by
 have h2:=h.perm (Zbv fs)
 refine Yen _ 0 (Zqs _ ?_ h2.nd) fun x hx=>?_
 ·have:=Zq4 fs
  rw[Web]
  exact this
 ·obtain⟨y,hy,rfl⟩:=Xn.mp hx
  have:=h2.rg y hy
  omega
theorem Zdy (ks:List D):∀ ls:List Int,∃ tl,ls=Zbj ks ls++tl/\∀ x∈tl,Zd1 ks x=true
 | []=>⟨[],rfl,by simp⟩
 | l::r=>by
  rw[Zbj]
  split
  ·rename_i h; exact⟨l::r,rfl,Xs.mp h⟩
  ·obtain⟨tl,e,h⟩:=Zdy ks r
   exact⟨tl,by rw[Wbv,<- e],h⟩
theorem Zty {m:Int}:∀ {a b:List Int} {last:Int},Up m last (a++b)->Up m last a
 | [],_,_,_=>trivial
 | x::a,b,last,h=>⟨h.1,h.2.1,Zty h.2.2⟩
theorem Yeb {m:Int}:∀ {a:List Int} {last:Int},Up m last a->∀ x∈a,last<Zan x
 | [],_,_,x,hx=>by cases hx
 | y::a,last,h,x,hx=>by
  obtain⟨h1,h2,h3⟩:=h
  rcases Xj.mp hx with rfl | hx
  ·exact h1
  ·have:=Yeb h3 x hx; omega
theorem Ztf {m:Int}:∀ {a b:List Int} {last:Int},Up m last (a++b)->∀ x∈a,∀ y∈b,Zan x<Zan y
 | [],_,_,_,x,hx,_,_=>by cases hx
 | z::a,b,last,h,x,hx,y,hy=>by
  obtain⟨h1,h2,h3⟩:=h
  rcases Xj.mp hx with rfl | hx
  ·exact Yeb h3 y (Xw _ hy)
  ·exact Ztf h3 x hx y hy
theorem Yci {ks:List D} {rss made:List (List Int)} {d:D} {x:List Int} (hm:∀ ls∈made,Up ks.length 0 ls) (h:stp ks rss made d=some x):Up ks.length 0 x:=by
 cases St.of h with
 | less i hi =>
  obtain⟨tl,e,_⟩:=Zdy ks made[i]
  have:=hm _ (Xy hi)
  rw[e] at this
  exact Zty this
 | row ls u h=>exact u
 | joined i j n x hi hj hn ho e =>
  have ha:=(Zlw (by omega) (hm _ (Xy hi))).1
  have hb:=(Zlw (by omega) (hm _ (Xy hj))).1
  unfold Zeg at e
  split at e
  ·cases e
  ·split at e
   ·cases e
   ·rename_i h2
    cases e
    exact Zil (R.join0 (ha.sub Wax) (hb.sub Wax) (by simpa using h2))
theorem Zyj {ks:List D} {rss:List (List Int)}:∀ (ds:List D) (made:List (List Int)),(∀ ls∈made,Up ks.length 0 ls)->∀ ls∈mad ks rss made ds,Up ks.length 0 ls
 | [],made,hm=>hm
 | d::r,made,hm=>by
  unfold mad
  cases e:stp ks rss made d with
  | none=>exact hm
  | some x =>
   refine Zyj r _ fun ls h=>?_
   rcases Xm.mp h with z | z
   ·exact hm ls z
   ·simp at z; subst z; exact Yci hm e
theorem Zt9 (ks:List D) (rss:List (List Int)):∀ (ds:List D) (made:List (List Int)),∃ t,mad ks rss made ds=made++t
 | [],made=>⟨[],by simp[mad]⟩
 | d::r,made=>by
  unfold mad
  cases e:stp ks rss made d with
  | none=>exact⟨[],by simp⟩
  | some x =>
   obtain⟨t,h⟩:=Zt9 ks rss r (made++[x])
   exact⟨[x]++t,by simp only; rw[h]; simp⟩
theorem Zzn {ks:List D} {rss:List (List Int)} {ds:List D} (ok:mok ks rss [] ds=true) {m:Nat} (hm:m<ds.length):∃ x,(mad ks rss [] ds)[m]? = some x/\stp ks rss ((mad ks rss [] ds).take m) ds[m]=some x:=by
 have e:ds=ds.take m++ds[m]::ds.drop (m+1):=by rw[<- War hm,Wdi]
 have ok1:=ok
 rw[e,Zis,Wah] at ok1
 have l1:=Zkd ks rss _ [] ok1.1
 rw[Wbu,Wep,Wat,Wfx (by omega)] at l1
 have e2:mad ks rss [] ds=mad ks rss (mad ks rss [] (ds.take m)) (ds[m]::ds.drop (m+1)):=by
  conv=>lhs; rw[e]
  exact Zlc _ _ _ _ _ ok1.1
 cases es:stp ks rss (mad ks rss [] (ds.take m)) ds[m] with
 | none =>
  have:=ok1.2
  simp only[mok,es] at this
  cases this
 | some x =>
  simp only[mad,es] at e2
  obtain⟨t,ht⟩:=Zt9 ks rss (ds.drop (m+1)) (mad ks rss [] (ds.take m)++[x])
  rw[ht] at e2
  refine⟨x,?_,?_⟩
  ·rw[e2,Wae,Xu (by omega),l1,Weq]
   rfl
  ·rw[e2,Wae,Wdk (by omega),Weg (by omega)]
   exact es
nonrec def Zdv (bs:List Bool) (ls:List Int):Bool:=ls.all fun l=>decide (Zan l<=bs.length)&&rig bs l
theorem Zos {bs:List Bool} {l:Int} (h:1<=Zan l/\Zan l<=bs.length):rig bs (-l) = !rig bs l:=by
 unfold rig
 rw[Zhn,Xg (by omega)]
 simp only
 have:decide (0 < -l) = !decide (0<l):=by
  by_cases z:0<l
  ·rw[decide_eq_true z,decide_eq_false (by omega)]; rfl
  ·rw[decide_eq_false z,decide_eq_true (by unfold Zan at h; split at h<;>omega)]; rfl
 rw[this]
 cases bs[(Zan l - 1).toNat]<;>cases decide (0<l)<;>rfl
theorem Zle {bs:List Bool} {l:Int} {k:Nat} (h:Zan l<=k) (h1:1<=Zan l):rig (bs.take k) l=rig bs l:=by
 unfold rig
 rw[Wbh (by omega)]
theorem Zsq {bs:List Bool} {ls:List Int} {k:Nat} (hr:∀ x∈ls,1<=Zan x) (h:Zdv (bs.take k) ls=true):Zdv bs ls=true:=by
 unfold Zdv at h ⊢
 rw[Xs] at h ⊢
 intro x hx
 have:=h x hx
 rw[Wah,decide_eq_true_iff] at this ⊢
 rw[Wat] at this
 rw[Zle (by omega) (hr x hx)] at this
 exact⟨by omega,this.2⟩
nonrec def pk1 (made:List (List Int)) (bs:List Bool) (d:D) (row:List Int):Option Bool:=match d with
 | .tup [.str s,.int i]=>if s = "less" /\ Zdv bs row=true then
   (if -((bs.length:Int)+1)∈made.getD i.toNat [] then some false else if (bs.length:Int)+1∈made.getD i.toNat [] then some true else none)
  else none
 | _=>none
nonrec def Zny (made:List (List Int)) (bs:List Bool):List (D×List Int)->Bool
 | []=>false
 | e::r=>(pk1 made bs e.1 e.2).getD (Zny made bs r)
theorem Ztt {made:List (List Int)} {bs:List Bool} {d:D} {row:List Int} (h:Zdv bs row=false):pk1 made bs d row=none:=by
 unfold pk1
 split
 ·rw[if_neg (fun z=>by rw[h] at z; cases z.2)]
 ·rfl
theorem Znb {made:List (List Int)} {bs:List Bool}:∀ (a b:List (D×List Int)),(∀ e∈a,Zdv bs e.2=false)->Zny made bs (a++b)=Zny made bs b
 | [],_,_=>rfl
 | e::a,b,h=>by
  rw[Wbv,Zny,Ztt (h e (by simp))]
  exact Znb a b fun e he=>h e (by simp[he])
theorem strat {ks:List D} {rss:List (List Int)} {ds:List D} {p:List Bool} (ok:mok ks rss [] ds=true) (hlast:(mad ks rss [] ds).getLast? = some []) (lp:p.length=ks.length)
  (hs:∀ k:Nat,k<p.length->Zd1 ks ((k:Int)+1)=true->p[k]? = some (Zny (mad ks rss [] ds) (p.take k) (ds.zip (mad ks rss [] ds)))):∀ row∈rss,∃ l∈row,rig p l=true:=by
 have lm:=Zkd ks rss ds [] ok
 rw[Wbu,Wep] at lm
 have ups:=Zyj (ks:=ks) (rss:=rss) ds [] (by simp)
 generalize hmd:mad ks rss [] ds=made at *
 -- the first that is lost
 have ex:∃ m,∃ hm:m<made.length,Zdv p made[m]=true/\∀ j (hj:j<m),Zdv p (made[j]'(by omega))=false:=by
  have hx:∃ m,m<made.length/\∃ r,made[m]? = some r/\Zdv p r=true:=by
   cases em:made with
   | nil=>rw[em] at hlast; cases hlast
   | cons a b =>
    refine⟨made.length - 1,by rw[em]; simp,[],?_,rfl⟩
    rw[List.getLast?_eq_getElem?] at hlast
    rw[<- em]
    exact hlast
  obtain⟨m0,h0,h1,h2⟩:=hx
  have key:∀ n,n<made.length->(∃ m,m<=n/\∃ r,made[m]? = some r/\Zdv p r=true)->∃ m,∃ hm:m<made.length,Zdv p made[m]=true/\∀ j (hj:j<m),Zdv p (made[j]'(by omega))=false:=by
   intro n
   induction n using Nat.strongRecOn with
   | _ n ih =>
    rintro hn ⟨m,hmn,r,hr,hl⟩
    by_cases z:∃ j,j<m/\∃ r,made[j]? = some r/\Zdv p r=true
    ·obtain⟨j,hj,y⟩:=z
     exact ih j (by omega) (by omega) ⟨j,Xd _,y⟩
    ·have hm:m<made.length:=by omega
     rw[Xg hm] at hr
     cases hr
     refine⟨m,hm,hl,fun j hj=>?_⟩
     cases y:Zdv p (made[j]'(by omega)) with
     | false=>rfl
     | true=>exact absurd ⟨j,hj,_,Xg (by omega),y⟩ z
  exact key m0 h0 ⟨m0,Xd _,h1,h2⟩
 obtain⟨m,hm,lost,first⟩:=ex
 have hmd':m<ds.length:=by omega
 obtain⟨x,hx,es⟩:=Zzn (ks:=ks) (rss:=rss) ok hmd'
 rw[hmd] at hx es
 rw[Xg hm] at hx
 have hx:=Wac.inj hx
 have nl:∀ {i:Nat} (hi:i<m),Zdv p ((made.take m).getD i [])=false:=fun {i} hi=>by
  rw[Xx,Wbh hi,Xg (by omega)]
  exact first i hi
 have upi:∀ {i:Nat} (hi:i<m),Up ks.length 0 ((made.take m).getD i []):=fun {i} hi=>by
  rw[Xx,Wbh hi,Xg (by omega)]
  exact ups _ (Xy _)
 have lt:(made.take m).length=m:=by rw[Wat]; omega
 have all:∀ y∈x,Zan y<=p.length/\rig p y=true:=fun y hy=>by
  rw[<- hx] at hy
  have:=Xs.mp lost y hy
  rw[Wah,decide_eq_true_iff] at this
  exact this
 have mk:∀ {l:List Int},Up ks.length 0 l->(∀ y∈l,rig p y=true)->Zdv p l=true:=fun {l} u h=>by
  refine Xs.mpr fun y hy=>?_
  have:=(Zlw (by omega) u).1.rg y hy
  rw[Wah,decide_eq_true_iff,h y hy]
  exact⟨by omega,rfl⟩
 generalize ed:ds[m]=dd at es
 cases St.of es with
 | less i hi =>
  rw[lt] at hi
  exfalso
  have eg0:(made.take m).getD i []=(made.take m)[i]:=by rw[Xx,Xg (by omega)]; rfl
  rw[<- eg0] at es hx all
  obtain⟨tl,e,ow⟩:=Zdy ks ((made.take m).getD i [])
  have u:=upi hi
  have nlx:=nl hi
  have rr:=(Zlw (by omega) u).1
  -- a literal that is wrong
  obtain⟨y,hy,ry⟩:∃ y∈(made.take m).getD i [],rig p y=false:=by
   cases z:((made.take m).getD i []).all (rig p) with
   | false=>obtain⟨y,h1,h2⟩:=List.all_eq_false.mp z; exact⟨y,h1,by simpa using h2⟩
   | true =>
    have:=mk u fun y hy=>Xs.mp z y hy
    rw[nlx] at this; cases this
  have hyt:y∈tl:=by
   rw[e] at hy
   rcases Xm.mp hy with z | z
   ·have:=(all y z).2; rw[ry] at this; cases this
   ·exact z
  have ry1:=rr.rg y hy
  obtain⟨k,hk⟩:∃ k:Nat,Zan y=(k:Int)+1:=⟨(Zan y - 1).toNat,by omega⟩
  have hkp:k<p.length:=by omega
  have own:Zd1 ks ((k:Int)+1)=true:=by
   have:=ow y hyt
   unfold Zd1 at this ⊢
   rw[hk] at this
   rw[show Zan ((k:Int)+1)=(k:Int)+1 by unfold Zan; split<;>omega]
   exact this
  have pk:=hs k hkp own
  have lk:(p.take k).length=k:=by rw[Wat]; omega
  have before:∀ z∈Zbj ks ((made.take m).getD i []),Zan z<=k:=fun z hz=>by
   rw[e] at u
   have:=Ztf u z hz y hyt
   omega
  have lostk:Zdv (p.take k) made[m]=true:=by
   rw[hx]
   refine Xs.mpr fun z hz=>?_
   have h1:=before z hz
   have h2:=rr.rg z (by rw[e]; exact Wak _ hz)
   rw[Wah,decide_eq_true_iff,lk,Zle h1 h2.1,(all z hz).2]
   exact⟨h1,rfl⟩
  have hz:m<(ds.zip made).length:=by rw[Wer]; omega
  have ez:ds.zip made=(ds.zip made).take m++(.tup [.str "less",.int i],made[m])::(ds.zip made).drop (m+1):=by
   rw[<- ed]
   have:(ds.zip made)[m]=(ds[m],made[m]):=Wef
   rw[<- this,<- War hz,Wdi]
  rw[ez,Znb] at pk
  ·rw[Zny] at pk
   simp only[pk1] at pk
   have eg:made.getD (i:Int).toNat []=(made.take m).getD i []:=by
    rw[Waf,Xx,Xx,Wbh hi]
   rw[if_pos ⟨trivial,lostk⟩,eg,lk] at pk
   have ypos:y=(k:Int)+1\/y = -((k:Int)+1):=by unfold Zan at hk; split at hk<;>omega
   rcases ypos with e1 | e1
   ·have hy2:(k:Int)+1∈(made.take m).getD i []:=by rw[<- e1]; exact hy
    have hn2:¬ (-((k:Int)+1)∈(made.take m).getD i []):=fun z=>by
     have:=rr.inj z hy2 (Zhn _)
     omega
    rw[if_neg hn2,if_pos hy2] at pk
    unfold rig at ry
    rw[hk,show ((k:Int)+1 - 1).toNat=k by omega,pk] at ry
    have:decide (0<y)=true:=decide_eq_true (by omega)
    rw[this] at ry
    cases ry
   ·rw[if_pos (by rw[<- e1]; exact hy)] at pk
    unfold rig at ry
    rw[hk,show ((k:Int)+1 - 1).toNat=k by omega,pk] at ry
    have:decide (0<y)=false:=decide_eq_false (by omega)
    rw[this] at ry
    cases ry
  ·intro ee hee
   obtain⟨j,hj,rfl⟩:=Wcq.mp hee
   rw[Wat] at hj
   rw[List.getElem_take,Wef]
   cases w:Zdv (p.take k) (made[j]'(by omega)) with
   | false=>rfl
   | true =>
    have:=Zsq (fun x hx=>((Zlw (by omega) (ups _ (Xy (by omega)))).1.rg x hx).1) w
    rw[first j (by omega)] at this
    cases this
 | row ls u hc =>
  intro row hr
  obtain⟨l,h1,h2⟩:=hc row hr
  exact⟨l,h1,(all l h2).2⟩
 | joined i j n x hi hj hc3 hc4 es =>
  exfalso
  rw[lt] at hi hj
  have ei:(made.take m)[i]=(made.take m).getD i []:=by rw[Xx,Xg (by omega)]; rfl
  have ej:(made.take m)[j]=(made.take m).getD j []:=by rw[Xx,Xg (by omega)]; rfl
  rw[ei,ej] at es
  have ua:=upi hi
  have ub:=upi hj
  have na:=nl hi
  have nb:=nl hj
  generalize (made.take m).getD i []=a at ua na es
  generalize (made.take m).getD j []=b at ub nb es
  unfold Zeg at es
  split at es
  ·cases es
  ·split at es
   ·cases es
   ·cases es
    rename_i h1 _ h2
    have hn:n∈a /\ -n∈b:=by
     refine⟨?_,?_⟩
     ·exact Uw fun z=>h1 (.inl z)
     ·exact Uw fun z=>h1 (.inr z)
    have inx:∀ {z:Int},z∈(a.filter fun x=>decide (x≠n))++(b.filter fun x=>decide (x ≠ -n)).filter (fun x=>decide (x∉a.filter fun x=>decide (x≠n)))->rig p z=true:=fun hz=>(all _ ((Zbv _).mem_iff.mpr hz)).2
    have rn:=(Zlw (by omega) ua).1.rg n hn.1
    cases rgn:rig p n with
    | true =>
     have:=mk ua fun z hz=>by
      by_cases e:z=n
      ·rw[e]; exact rgn
      ·exact inx (Wak _ (Waa.mpr ⟨hz,by simpa using e⟩))
     rw[na] at this; cases this
    | false =>
     have rgm:rig p (-n)=true:=by rw[Zos ⟨rn.1,by omega⟩,rgn]; rfl
     have:=mk ub fun z hz=>by
      by_cases e:z = -n
      ·rw[e]; exact rgm
      ·by_cases w:z∈a.filter fun x=>decide (x≠n)
       ·exact inx (Wak _ w)
       ·exact inx (Xw _ (Waa.mpr ⟨Waa.mpr ⟨hz,by simpa using e⟩,decide_eq_true w⟩))
     rw[nb] at this; cases this
variable {σ:SD} {H:HD} {Q:D->HD->Prop}
theorem Ybg {ns:List Int} (H:HD) (k:Int) (Q:D->HD->Prop) (h0:0<=k) (h1:k<=1000) (q:∀ c,Q (.int c) H):wE (Zd3 [.fl (ns.map .int),.int k] H) Q:=by
 refine Za6 rfl ?_
 show wS (Zhb [some (.fl (ns.map .int)),some (.int k)] H) _
 unfold Zhb
 fail "i"
 refine⟨fun h=>?_,fun h=>?_⟩
 ·have lt:k.toNat<ns.length:=by have:=of_decide_eq_true h; simp at this; omega
  fail "g"
  refine w_ixF (Zgw h0 (d:=.int ns[k.toNat]) (by rw[Xr,Xg lt]; rfl)) ?_
  fail "g"
  exact q _
 ·fail "g"
  exact q _
theorem Zw0 {p:Nat} {xs:List D} {k:Nat} (g:H[p]? = some (.lst xs)) (q:Q (.ref H.length) (H++[.lst (xs.drop k)])):wE (slD (.ref p) (some (k:Int)) none H) Q :=
 ⟨_,_,by rw[<- Zyz]; simp only[slD,g],q⟩
theorem Zwx.drop {ds:List Int} (h:Zwx ds) (k:Nat):Zwx (ds.drop k):=fun d hd=>h d (Weu hd)
theorem Zbn (ls:List Int):Fines (ls.map .int) (ls.map .int) 0:=by
 induction ls with
 | nil=>exact .nil
 | cons l r ih=>exact .cons (.int l) ih
theorem Yb3 {i n:Nat} {x:String} {F:FF} {f:AF} (h:σ[i]? = some (some (.ty x))) (q:wE (Zap n F f σ H) Q):wE (Zmj i n x F f σ H) Q:=by
 unfold Zmj; rw[h]; simpa using q
theorem Zyr {xs:List D} {i:Nat} {d:D} (h:xs[i]? = some d):atI xs (i:Int)=some d:=Zcj h
nonrec def sdS (b:Bool):D:=Zbx (!b)
theorem Zk9 {ks:List D} {x:Int} (hk:∀ d∈ks,Zcc d) (h:1<=Zan x/\Zan x<=ks.length):atI ks (Zan x - 1)=some (sdS (!Zd1 ks x)):=by
 have e:Zan x - 1=(((Zan x).toNat - 1:Nat):Int):=by omega
 rw[e]
 refine Zcj ?_
 rw[Zlv hk (by omega)]
 unfold Zd1 sdS
 rw[Wes]
theorem Ybb {b:Bool} (q:Q (.bl (!b)) H):wE (eqD (sdS b) (.str "some") H) Q:=by
 refine⟨_,_,Zpo (!b) true H,?_⟩
 cases b<;>exact q
theorem Zpl {b:Bool} (q:Q (.bl b) H):wE (neD (sdS b) (.str "some") H) Q:=by
 cases b
 ·exact⟨_,_,rfl,q⟩
 ·exact⟨_,_,rfl,q⟩
theorem Zk5 {ks:List D} {ls:List Int} (hk:∀ d∈ks,Zcc d) (h8:ks.length<=8) (h:R ks.length ls) (q:Q (Zaz (Zbj ks ls)) H):wE (Zf2 [.tup ks,.str "some",Zaz ls] H) Q:=by
 have hl:=h.len
 refine Za6 rfl ?_
 show wS (Zej [some (.tup ks),some (.str "some"),some (.tup (ls.map .int)),none] H) _
 unfold Zej
 fail "g"
 rw[Xo]
 refine Zoj (fun m σ H'=>m<=ls.length/\H'=H/\(∀ x∈ls.drop m,Zd1 ks x=true)/\σ=[some (.tup ks),some (.str "some"),some (.tup (ls.map .int)),some (.int (m:Int))]) (fun m σ H' zz=>?_) 20 ls.length _ _ (by omega) ⟨Xd _,rfl,by simp,rfl⟩
 obtain⟨i1,i2,i3,i4⟩:=zz
 subst i2 i4
 have fi:∀ m:Nat,(∀ x∈ls.drop m,Zd1 ks x=true)->(∀ x,(ls.take m).getLast? = some x->Zd1 ks x=false)->Zbj ks ls=ls.take m:=fun m h1 h2=>by
  have:=Zi7 ks (ls.take m) (ls.drop m) h1 h2
  rwa [Wdi] at this
 have done:Zbj ks ls=ls.take m->Yb5 (fun σ1 H1=>wS (Zaf (Zbc (eSl (Zac 2) Zge (Zfb (Zac 3)))) Zaj σ1 H1) (fin Q)) (fin Q) .nx [some (.tup ks),some (.str "some"),some (.tup (ls.map .int)),some (.int (m:Int))] H':=fun e=>by
  fail "g"
  rw[<- Wfe,<- e]
  exact q
 fail "g"
 refine⟨fun z=>?_,fun z=>?_⟩
 ·have z:=of_decide_eq_true z
  obtain⟨m',rfl⟩:∃ m',m=m'+1:=⟨m - 1,by omega⟩
  have hm:m'<ls.length:=by omega
  have hr:=h.rg _ (Xy hm)
  fail "g"
  rw[show ((m'+1:Nat):Int) - 1=(m':Int) by omega]
  refine w_ixT (Zyr (d:=.int ls[m']) (by simp[hm])) ?_
  fail "g"
  refine w_ixT (Zk9 hk hr) ?_
  fail "g"
  refine Ybb ?_
  fail "g"
  rw[Wes]
  refine⟨fun y=>⟨m',rfl,?_⟩,fun y=>?_⟩
  ·refine w_seq (wS_of (by with_unfolding_all rfl) ?_)
   fail "g"
   refine⟨by omega,rfl,fun x hx=>?_,?_⟩
   ·rw[War hm] at hx
    rcases Xj.mp hx with rfl | hx
    ·exact y
    ·exact i3 x hx
   ·show [some (D.tup ks),some (D.str "some"),some (D.tup (ls.map D.int)),some (D.int (((m'+1:Nat):Int) - 1))]=_
    rw[show ((m'+1:Nat):Int) - 1=(m':Int) by omega]
  ·refine done (fi _ i3 fun x hx=>?_)
   rw[List.take_succ_eq_append_getElem hm,Wcr] at hx
   simp at hx
   rw[<- hx]; exact y
 ·have z:=of_decide_eq_false z
  obtain rfl:m=0:=by omega
  fail "g"
  rw[<- Wfe,<- fi 0 i3 (by simp)]
  exact q
nonrec def Zxe:Option (List Int)->D
 | none=>.non
 | some ls=>Zaz ls
theorem Zl0 (ls:List Int) (x:Int):((ls.map PyData.int).any fun z=>Ub z (.int x))=decide (x∈ls):=by
 rw[Wen,Wau,decide_eq_true_iff]
 constructor
 ·rintro⟨z,hz,e⟩
  obtain⟨y,hy,rfl⟩:=Xn.mp hz
  have:y=x:=by simpa [Ub] using e
  subst this; exact hy
 ·intro h
  exact⟨.int x,Xn.mpr ⟨x,h,rfl⟩,by simp[Ub]⟩
theorem Zxi {x:Int} {ls:List Int} (q:Q (.bl (decide (x∈ls))) H):wE (inD (.int x) (.tup (ls.map .int)) H) Q:=w_inT (.int x) (Zbn ls) (by omega) (by omega) (by rw[Zl0]; exact q)
theorem Zom {x:Int} {ls:List Int} (q:Q (.bl (!decide (x∈ls))) H):wE (niD (.int x) (.tup (ls.map .int)) H) Q:=w_niT (.int x) (Zbn ls) (by omega) (by omega) (by rw[Zl0]; exact q)
theorem Zs4 {p r:Nat} {ds:List D} {xs:List Vz} {h:Nat} (f:Fines ds xs h) (hh:h<30) (g1:H[p]? = some (.lst ds)) (g2:H[r]? = some (.lst [])) (q:Q (.bl (!ds.isEmpty)) H):wE (neD (.ref p) (.ref r) H) Q :=
 ⟨_,_,Zo2 (f.dat hh g1) (Fines.nil.dat (by omega:0<30) g2),by
  have e:Ub (.list xs) (.list [])=ds.isEmpty:=by
   cases ds with
   | nil=>have:=f.len; cases xs with | nil=>rfl | cons a b=>simp at this
   | cons d r=>have:=f.len; cases xs with | nil=>simp at this | cons a b=>simp[Ub,Uq]
  rw[e]; exact q⟩
theorem Zzv {xs:List D} (q:Q (.ref H.length) (H++[.lst xs])):wE (Zo1 [.tup xs] H) Q:=⟨_,_,rfl,q⟩
theorem Ybj {p:Nat} {xs:List D} (g:H[p]? = some (.lst xs)) (q:Q (.ref H.length) (H++[.lst xs])):wE (Zo1 [.ref p] H) Q:=⟨_,_,by simp[Zo1,Zmh,g],q⟩
theorem Zvb {p:Nat} {zs:List Int} (g:H[p]? = some (.lst (zs.map .int))) (hl:zs.length<=60) (nd:(zs.map Zan).Nodup) (q:Q (.ref H.length) (H++[.lst ((Zda zs).map .int)])):wE (Zk4 [.ref p] H) Q:=by
 refine⟨_,_,?_,q⟩
 unfold Zk4
 simp only[Zmh,g,Zb]
 have e:Zhs (zs.map .int)=some zs:=by
  clear g nd hl q
  induction zs with
  | nil=>rfl
  | cons z r ih=>simp[Zhs,ih]
 rw[e]
 simp only[Zb]
 exact if_pos ⟨by omega,nd⟩
theorem Zqn {p:Nat} {zs:List Int} (g:H[p]? = some (.dci (zs.map fun x=>(x,.bl true)))) (hl:zs.length<=60) (nd:(zs.map Zan).Nodup) (q:Q (.ref H.length) (H++[.lst ((Zda zs).map .int)])):wE (Zht [.ref p] H) Q:=by
 refine⟨_,_,?_,q⟩
 unfold Zht
 simp only[g]
 have e:(zs.map fun x=>(x,D.bl true)).map (·.1)=zs:=by rw[Waw]; exact Wfo zs
 rw[e]
 exact if_pos ⟨by simp; omega,nd⟩
theorem Zsr {ks:List D} {ls:List Int} (hk:∀ d∈ks,Zcc d) (h8:ks.length<=8) (h:R ks.length ls) (q:∀ H',Fm [] H H'->Q (Zaz (Zbj ks ls)) H'):wE (Zhq [.tup ks,.str "some",Zaz ls] H) Q:=by
 have hl:=h.len
 refine Za6 rfl ?_
 show wS (Zee [some (.tup ks),some (.str "some"),some (.tup (ls.map .int)),none,none,none,none] H) _
 unfold Zee
 fail "g"
 refine⟨_,rfl,?_⟩
 refine Zbo (fun d t σ H'=>∃ (pre r fs:List Int) (z3 z4 z5:Option D),ls=pre++r/\t=Zck (pre.length:Int) (r.map .int)/\fs++Zbj ks r=Zbj ks ls/\fs.length<=pre.length/\H'[H.length]? = some (.lst (fs.map .int))/\Fm [] H H'/\σ=[some (.tup ks),some (.str "some"),some (.tup (ls.map .int)),some (.ref H.length),z3,z4,z5]) (fun _ _ _ _ _=>Ze8) (fun d x t σ H1 zz=>?_) (fun d σ H1 zz=>?_) _ [] _ _ ⟨[],ls,[],_,_,_,rfl,rfl,rfl,Xd _,last,Fm.app _,rfl⟩
 ·obtain⟨pre,r,fs,z3,z4,z5,i1,i2,i3,i4,i5,i6,i7⟩:=zz
  subst i7
  cases r with
  | nil=>cases i2
  | cons l r =>
   obtain⟨rfl,rfl⟩:=Wbe.inj (show x::t=.tup [.int (pre.length:Int),.int l]::Zck ((pre.length:Int)+1) (r.map .int) from i2)
   have lp:pre.length<=8:=by rw[i1] at hl; simp at hl; omega
   have ed:(ls.map D.int).drop pre.length=(l::r).map D.int:=by rw[i1,<- Wcp,List.drop_left]
   fail "g"
   rw[ed]
   fail "g"
   refine Zb2 (fun d=>match d with | .int x => !Zd1 ks x | _=>true) (fun H'=>H'=H1) (fun _ j=>Ze8) _ (fun y hy H2 j=>?_) _ rfl fun H2 j=>?_
   ·obtain⟨z,hz,rfl⟩:=Xn.mp hy
    subst j
    have hr:=h.rg z (by rw[i1]; exact Xw _ hz)
    fail "g"
    refine w_ixT (Zk9 hk hr) ?_
    fail "g"
    refine Zpl ?_
    exact⟨_,rfl,rfl,rfl⟩
   ·subst j
    have ef:(((l::r).map D.int).filter fun d=>match d with | .int x => !Zd1 ks x | _=>true)=((l::r).filter fun x => !Zd1 ks x).map .int:=by
     rw[Wbn]
     rfl
    rw[ef]
    refine⟨by have:=Wai (fun x => !Zd1 ks x) (l::r); rw[i1] at hl; simp at hl this ⊢; omega,?_⟩
    have tl:Zck ((pre.length:Int)+1) (r.map .int)=Zck (((pre++[l]).length:Nat):Int) (r.map .int):=by simp
    have hn:H.length≠H2.length:=by have:=(Xc.mp i5).1; omega
    fail "i"
    refine Zs4 (p:=H2.length) (Zbn ((l::r).filter fun x => !Zd1 ks x)) (by omega) (appL last) last ?_
    fail "g"
    refine⟨fun z=>?_,fun z=>?_⟩
    ·have hn:¬ ((l::r).all (Zd1 ks)=true):=fun y=>by
      have:((l::r).filter fun x => !Zd1 ks x)=[]:=Wci.mpr fun a ha=>by rw[Xs.mp y a ha]; simp
      rw[this] at z; cases z
     fail "g"
     refine⟨isl (appL (appL i5)),?_⟩
     fail "g"
     refine Ze3 (appL (appL i5)) (by simp; omega) ?_
     fail "g"
     refine⟨pre++[l],r,fs++[l],_,_,_,by rw[i1]; simp,tl,?_,by simp; omega,by rw[Zhu (appL (appL i5))]; simp,?_,rfl⟩
     ·rw[<- i3]
      conv=>rhs; rw[Zbj,if_neg hn]
      simp
     ·exact((i6.trans (Fm.app _)).trans (Fm.app _)).new (Fm.set (S:=[H.length]) (by simp)) (fun q hq _=>by simp at hq; subst hq; exact Xd _)
    ·have hn:(l::r).all (Zd1 ks)=true:=by
      rw[Xs]
      intro a ha
      cases y:Zd1 ks a with
      | true=>rfl
      | false =>
       have:a∈(l::r).filter fun x => !Zd1 ks x:=Waa.mpr ⟨ha,by rw[y]; rfl⟩
       cases w:(l::r).filter fun x => !Zd1 ks x with
       | nil=>rw[w] at this; cases this
       | cons b bs=>rw[w] at z; cases z
     fail "g"
     refine⟨pre++[l],r,fs,_,_,_,by rw[i1]; simp,tl,?_,by simp; omega,appL (appL i5),(i6.trans (Fm.app _)).trans (Fm.app _),rfl⟩
     rw[<- i3]
     conv=>rhs; rw[Zbj,if_pos hn]
     rw[Zne ks r fun x hx=>Xs.mp hn x (by simp[hx])]
 ·obtain⟨pre,r,fs,z3,z4,z5,i1,i2,i3,i4,i5,i6,i7⟩:=zz
  subst i7
  cases r with
  | cons l r=>cases i2
  | nil =>
   fail "g"
   have e:fs=Zbj ks ls:=by rw[<- i3]; exact(Wab fs).symm
   rw[e]
   exact q _ i6
variable {σ:SD} {H:HD} {Q:D->HD->Prop}
nonrec def Zn0 (a b:List Int):Option (List Int):=if b.any (fun x=>decide (-x∈a))=true then none else some (Zda (a++b.filter fun x=>decide (x∉a)))
theorem Zkp (a b:List Int) (n:Int) (h:n∈a /\ -n∈b):Zeg a b n=Zn0 (a.filter fun x=>decide (x≠n)) (b.filter fun x=>decide (x ≠ -n)):=by
 unfold Zeg Zn0
 rw[if_neg (by simp[h.1,h.2])]
theorem Znm {a:List Int} {n:Int} (hl:a.length<=1000) (q:∀ H',Fm [] H H'->Q (Zaz (a.filter fun x=>decide (x≠n))) H'):wE (Zgu [Zaz a,.int n] H) Q:=by
 refine Za6 rfl ?_
 show wS (Zfq [some (.tup (a.map .int)),some (.int n)] H) _
 unfold Zfq
 fail "g"
 refine Zb2 (fun d=>match d with | .int x=>decide (x≠n) | _=>true) (fun H'=>H'=H) (fun _ j=>Ze8) _ (fun y hy H2 j=>?_) _ rfl fun H2 j=>?_
 ·obtain⟨z,hz,rfl⟩:=Xn.mp hy
  subst j
  fail "g"
  refine⟨?_,rfl⟩
  by_cases e:z=n<;>simp[e]
 ·subst j
  have ef:((a.map D.int).filter fun d=>match d with | .int x=>decide (x≠n) | _=>true)=(a.filter fun x=>decide (x≠n)).map .int:=by
   rw[Wbn]
   rfl
  rw[ef]
  refine⟨by have:=Wai (fun x=>decide (x≠n)) a; simp at this ⊢; omega,?_⟩
  fail "g"
  exact q _ (Fm.app _)
theorem Yes {M:Nat} {a b:List Int} (ha:R M a) (hb:R M b) (hM:M<=8) (q:∀ H',Fm [] H H'->Q (Zxe (Zn0 a b)) H'):wE (Zu6 [Zaz a,Zaz b] H) Q:=by
 have la:=ha.len
 have lb:=hb.len
 refine Za6 rfl ?_
 show wS (Zoc [some (.tup (a.map .int)),some (.tup (b.map .int)),none,none] H) _
 unfold Zoc
 fail "g"
 refine Zzv ?_
 fail "g"
 refine Zbo (fun d t σ H'=>∃ (pre r:List Int) (z3:Option D),b=pre++r/\t=r.map .int/\pre.any (fun x=>decide (-x∈a))=false/\H'[H.length]? = some (.lst ((a++pre.filter fun x=>decide (x∉a)).map .int))/\Fm [] H H'/\σ=[some (.tup (a.map .int)),some (.tup (b.map .int)),some (.ref H.length),z3]) (fun _ _ _ _ _=>Ze8) (fun d x t σ H1 zz=>?_) (fun d σ H1 zz=>?_) _ [] _ _ ⟨[],b,_,rfl,rfl,rfl,by simp,Fm.app _,rfl⟩
 ·obtain⟨pre,r,z3,i1,i2,i3,i4,i5,i6⟩:=zz
  subst i6
  cases r with
  | nil=>cases i2
  | cons l r =>
   obtain⟨rfl,rfl⟩:=Wbe.inj i2
   fail "i"
   refine Zxi ?_
   fail "g"
   refine⟨fun z=>?_,fun z=>?_⟩
   ·fail "g"
    have:Zxe (Zn0 a b)=.non:=by
     unfold Zn0
     rw[if_pos (by rw[i1]; simp at z; simp[z])]; rfl
    rw[<- this]
    exact q _ i5
   ·fail "i"
    refine Zom ?_
    fail "g"
    have an:(pre++[l]).any (fun x=>decide (-x∈a))=false:=by rw[List.any_append,i3]; simp at z ⊢; exact z
    have lp:pre.length<=8:=by rw[i1] at lb; simp at lb; omega
    refine⟨fun y=>?_,fun y=>?_⟩
    ·fail "g"
     refine⟨isl i4,?_⟩
     fail "g"
     refine Ze3 i4 (by have:=Wai (fun x=>decide (x∉a)) pre; simp at this ⊢; omega) ?_
     fail "g"
     refine⟨pre++[l],r,_,by rw[i1]; simp,rfl,an,?_,i5.new (Fm.set (S:=[H.length]) (by simp)) (fun q hq _=>by simp at hq; subst hq; exact Xd _),rfl⟩
     rw[Zhu i4]
     have y:l∉a:=by simpa using y
     simp[Wcl,y]
    ·fail "g"
     refine⟨pre++[l],r,_,by rw[i1]; simp,rfl,an,?_,i5,rfl⟩
     rw[i4]
     have y:l∈a:=by simpa using y
     simp[Wcl,y]
 ·obtain⟨pre,r,z3,i1,i2,i3,i4,i5,i6⟩:=zz
  subst i6
  cases r with
  | cons l r=>cases i2
  | nil =>
   rw[Wab] at i1
   subst i1
   fail "g"
   have hj:=R.join0 ha hb i3
   refine Zvb i4 (by have:=hj.len; omega) hj.nd ?_
   fail "g"
   have:Zxe (Zn0 a b)=.tup ((Zda (a++b.filter fun x=>decide (x∉a))).map .int):=by
    unfold Zn0
    rw[if_neg (by rw[i3]; simp)]; rfl
   rw[<- this]
   exact q _ (i5.trans (Fm.app _))
theorem Zpv {M:Nat} {a b:List Int} {n:Int} (ha:R M a) (hb:R M b) (hM:M<=8) (q:∀ H',Fm [] H H'->Q (Zxe (Zeg a b n)) H'):wE (Zik [Zaz a,Zaz b,.int n] H) Q:=by
 have la:=ha.len
 have lb:=hb.len
 refine Za6 rfl ?_
 show wS (Zgv [some (.tup (a.map .int)),some (.tup (b.map .int)),some (.int n)] H) _
 unfold Zgv
 have no:(n∉a \/ -n∉b)->Q .non H:=fun h=>by
  have e:Zxe (Zeg a b n)=.non:=by unfold Zeg; rw[if_pos h]; rfl
  rw[<- e]; exact q _ Fm.refl
 fail "i"
 refine Zom ?_
 fail "g"
 refine⟨fun z=>?_,fun z=>?_⟩
 ·fail "g"
  exact no (.inl (by simpa using z))
 ·fail "g"
  refine Zom ?_
  fail "g"
  refine⟨fun y=>?_,fun y=>?_⟩
  ·fail "g"
   exact no (.inr (by simpa using y))
  ·fail "g"
   have h:n∈a /\ -n∈b:=⟨by simpa using z,by simpa using y⟩
   refine Znm (a:=a) (by omega) fun H1 x1=>?_
   fail "g"
   refine Znm (a:=b) (by omega) fun H2 x2=>?_
   fail "g"
   refine Yes (ha.sub Wax) (hb.sub Wax) hM fun H3 x3=>?_
   rw[<- Zkp a b n h]
   fail "g"
   exact q _ ((x1.trans x2).trans x3)
nonrec def Zg1 (n:Int):List Int->List Int->Option (List Int)
 | zs,[]=>some zs
 | zs,x::r=>if Zan x=n then Zg1 n zs r else if -x∈zs then none else Zg1 n (if x∈zs then zs else zs++[x]) r
theorem Zy8 {M:Nat} {a:List Int} {n:Int} (ha:R M a) (h1:1<=n) (hn:n∈a) (b:List Int):∀ (a2 a1:List Int),a=a1++a2->Zg1 n (a1.filter fun x=>decide (x≠n)) (a2++b)=Zg1 n (a.filter fun x=>decide (x≠n)) b
 | [],a1,e=>by rw[Wab] at e; subst e; rfl
 | x::a2,a1,e=>by
  have en:Zan n=n:=by unfold Zan; split<;>omega
  have hx:x∈a:=by rw[e]; simp
  have e':a=(a1++[x])++a2:=by rw[e]; simp
  have ih:=Zy8 ha h1 hn b a2 (a1++[x]) e'
  rw[Wbv,Zg1]
  rw[Wcl] at ih
  split
  ·rename_i z
   have:x=n:=ha.inj hx hn (by rw[z,en])
   simpa [this] using ih
  ·rename_i z
   have xn:x≠n:=fun y=>z (by rw[y]; exact en)
   have s1:∀ y,y∈a1.filter (fun x=>decide (x≠n))->y∈a:=fun y hy=>by rw[e]; exact Wak _ (Waa.mp hy).1
   rw[if_neg (fun y=>by
    have:=ha.inj (s1 _ y) hx (Zhn x)
    have:=(ha.rg x hx).1
    unfold Zan at this
    split at this<;>omega)]
   rw[if_neg (fun y=>by
    have nd:=ha.nd
    rw[e,Waj,Waq] at nd
    exact nd.2.2 (Zan x) (Xn.mpr ⟨x,(Waa.mp y).1,rfl⟩) (Zan x) (by simp) rfl)]
   simpa [xn] using ih
theorem Zzk {M:Nat} {a b:List Int} {n:Int} (hb:R M b) (h1:1<=n) (hn : -n∈b):∀ (b2 b1:List Int),b=b1++b2 ->
  Zg1 n (a++(b1.filter fun x=>decide (x ≠ -n)).filter fun x=>decide (x∉a)) b2=if (b2.filter fun x=>decide (x ≠ -n)).any (fun x=>decide (-x∈a))=true then none else some (a++(b.filter fun x=>decide (x ≠ -n)).filter fun x=>decide (x∉a))
 | [],b1,e=>by rw[Wab] at e; subst e; rfl
 | x::b2,b1,e=>by
  have en:Zan (-n)=n:=by unfold Zan; split<;>omega
  have hx:x∈b:=by rw[e]; simp
  have e':b=(b1++[x])++b2:=by rw[e]; simp
  have ih:=Zzk (a:=a) hb h1 hn b2 (b1++[x]) e'
  rw[Zg1]
  rw[Wcl,Wcl] at ih
  split
  ·rename_i z
   have:x = -n:=hb.inj hx hn (by rw[z,en])
   simpa [this] using ih
  ·rename_i z
   have xn:x ≠ -n:=fun y=>z (by rw[y]; exact en)
   have s1:∀ y,y∈(b1.filter fun x=>decide (x ≠ -n)).filter (fun x=>decide (x∉a))->y∈b1:=fun y hy=>(Waa.mp (Waa.mp hy).1).1
   have c1:(-x∈a++(b1.filter fun x=>decide (x ≠ -n)).filter fun x=>decide (x∉a)) ↔ -x∈a:=by
    rw[Xm]
    refine⟨fun y=>y.elim id fun y=>?_,.inl⟩
    have:=hb.inj (by rw[e]; exact Wak _ (s1 _ y)) hx (Zhn x)
    have:=(hb.rg x hx).1
    unfold Zan at this
    split at this<;>omega
   have c2:(x∈a++(b1.filter fun x=>decide (x ≠ -n)).filter fun x=>decide (x∉a)) ↔ x∈a:=by
    rw[Xm]
    refine⟨fun y=>y.elim id fun y=>?_,.inl⟩
    have nd:=hb.nd
    rw[e,Waj,Waq] at nd
    exact absurd rfl (nd.2.2 (Zan x) (Xn.mpr ⟨x,s1 _ y,rfl⟩) (Zan x) (by simp))
   by_cases y : -x∈a
   ·rw[if_pos (c1.mpr y),if_pos (by simp[xn,y])]
   ·rw[if_neg (fun w=>y (c1.mp w))]
    by_cases w:x∈a
    ·rw[if_pos (c2.mpr w)]
     simpa [xn,y,w] using ih
    ·rw[if_neg (fun v=>w (c2.mp v))]
     simpa [xn,y,w] using ih
theorem Zv3 {M:Nat} {a b:List Int} {n:Int} (ha:R M a) (hb:R M b) (h1:1<=n) (hn:n∈a) (hm : -n∈b):(Zg1 n [] (a++b)).map Zda=Zeg a b n:=by
 have e1:=Zy8 ha h1 hn b a [] rfl
 have e2:=Zzk (a:=a.filter fun x=>decide (x≠n)) hb h1 hm b [] rfl
 rw[show ([]:List Int).filter (fun x=>decide (x≠n))=[] from rfl] at e1
 rw[e1]
 rw[show (([]:List Int).filter (fun x=>decide (x ≠ -n))).filter (fun x=>decide (x∉a.filter fun x=>decide (x≠n)))=[] from rfl,Wab] at e2
 rw[e2]
 rw[Zkp a b n ⟨hn,hm⟩]
 unfold Zn0
 split<;>rfl
theorem Zo4 {M:Nat} {n:Int}:∀ (xs zs:List Int),(∀ x∈xs,1<=Zan x/\Zan x<=M)->R M zs->∀ ys,Zg1 n zs xs=some ys->R M ys
 | [],zs,_,hz,ys,e=>by cases e; exact hz
 | x::r,zs,hx,hz,ys,e=>by
  rw[Zg1] at e
  split at e
  ·exact Zo4 r zs (fun y hy=>hx y (by simp[hy])) hz ys e
  ·split at e
   ·cases e
   ·rename_i h1 h2
    refine Zo4 r _ (fun y hy=>hx y (by simp[hy])) ?_ ys e
    split
    ·exact hz
    ·rename_i h3
     refine⟨?_,fun y hy=>?_⟩
     ·rw[Waj,Waq]
      refine⟨hz.nd,by simp,fun u hu v hv e=>?_⟩
      obtain⟨y,hy,rfl⟩:=Xn.mp hu
      simp at hv
      subst hv
      rcases Zk8 e with z | z
      ·exact h3 (z ▸ hy)
      ·exact h2 (z ▸ hy)
     ·rcases Xm.mp hy with z | z
      ·exact hz.rg y z
      ·simp at z; subst z; exact hx y (by simp)
nonrec def kvT (x:Int):Int×D:=(x,.bl true)
theorem Zpf (k:Int):∀ zs:List Int,(Zic (zs.map kvT) k).isSome=decide (k∈zs)
 | []=>rfl
 | z::r=>by
  have ih:=Zpf k r
  unfold Zic at ih ⊢
  rw[Xl]
  by_cases e:z=k
  ·subst e
   rw[Wdf (by simp[kvT])]
   simp
  ·rw[Wch (by simp[kvT,e]),ih]
   have:¬ k=z:=fun w=>e w.symm
   simp[this]
theorem Zzb (k:Int) (zs:List Int):Zma (zs.map kvT) k (.bl true)=(if k∈zs then zs else zs++[k]).map kvT:=by
 unfold Zma
 by_cases h:k∈zs
 ·rw[if_pos (by rw[Wfp,Wau]; exact⟨k,h,by simp[kvT]⟩),if_pos h,Waw]
  refine Wdq fun x _=>?_
  show (if x=k then (x,D.bl true) else kvT x)=kvT x
  split<;>rfl
 ·have hn:¬ ((zs.map kvT).any (fun p=>decide (p.1=k))=true):=by
   rw[Wfp,Wau]
   rintro⟨x,hx,e⟩
   have e:x=k:=of_decide_eq_true e
   subst e
   exact h hx
  rw[if_neg hn,if_neg h,Waj]
  rfl
theorem Ye4 {n:Nat} {kvs:List (Int×D)} {k:Int} (g:H[n]? = some (.dci kvs)) (q:Q (.bl (Zic kvs k).isSome) H):wE (Yfh (.int k) (.ref n) H) Q:=⟨_,_,by simp[Yfh,Yb8,g],q⟩
theorem Zpz {n:Nat} {kvs:List (Int×D)} {k:Int} {v:D} {Z:HD->Prop} (g:H[n]? = some (.dci kvs)) (h:kvs.length<=1000) (q:Z (H.set n (.dci (Zma kvs k v)))):wH (Zpq (.ref n) (.int k) v H) Z:=by
 refine⟨_,?_,q⟩
 have sz:=Ubb
 simp only[Zpq,g]
 exact if_pos (by omega)
theorem Yaj (q:Q (.ref H.length) (H++[.dci []])):wE (eDI σ H) Q:=⟨_,_,rfl,q⟩
theorem Zjo {M:Nat} {a b:List Int} {n:Int} (ha:R M a) (hb:R M b) (hM:M<=8) (h1:1<=n) (q:∀ H',Fm [] H H'->Q (Zxe (Zeg a b n)) H'):wE (Zd7 [Zaz a,Zaz b,.int n] H) Q:=by
 have la:=ha.len
 have lb:=hb.len
 refine Za6 rfl ?_
 show wS (Zc3 [some (.tup (a.map .int)),some (.tup (b.map .int)),some (.int n),none,none] H) _
 unfold Zc3
 have no:(n∉a \/ -n∉b)->Q .non H:=fun h=>by
  have e:Zxe (Zeg a b n)=.non:=by unfold Zeg; rw[if_pos h]; rfl
  rw[<- e]; exact q _ Fm.refl
 fail "i"
 refine Zom ?_
 fail "g"
 refine⟨fun z=>?_,fun z=>?_⟩
 ·fail "g"
  exact no (.inl (by simpa using z))
 fail "g"
 refine Zom ?_
 fail "g"
 refine⟨fun y=>?_,fun y=>?_⟩
 ·fail "g"
  exact no (.inr (by simpa using y))
 fail "g"
 refine Yaj ?_
 have hn:n∈a:=by simpa using z
 have hm : -n∈b:=by simpa using y
 have fj:=Zv3 ha hb h1 hn hm
 fail "g"
 rw[<- Waj]
 refine Zbo (fun d t σ H'=>∃ (pre r zs:List Int) (z4:Option D),a++b=pre++r/\t=r.map .int/\Zg1 n zs r=Zg1 n [] (a++b)/\R M zs/\H'[H.length]? = some (.dci (zs.map kvT))/\Fm [] H H'/\σ=[some (.tup (a.map .int)),some (.tup (b.map .int)),some (.int n),some (.ref H.length),z4]) (fun _ _ _ _ _=>Ze8) (fun d x t σ H1 zz=>?_) (fun d σ H1 zz=>?_) _ [] _ _ ⟨[],a++b,[],_,rfl,rfl,rfl,⟨.nil,by simp⟩,last,Fm.app _,rfl⟩
 ·obtain⟨pre,r,zs,z4,i1,i2,i3,i4,i5,i6,i7⟩:=zz
  subst i7
  cases r with
  | nil=>cases i2
  | cons l r =>
   obtain⟨rfl,rfl⟩:=Wbe.inj i2
   have hl:1<=Zan l/\Zan l<=M:=by
    have:l∈a++b:=by rw[i1]; simp
    rcases Xm.mp this with w | w
    ·exact ha.rg l w
    ·exact hb.rg l w
   have i1':a++b=(pre++[l])++r:=by rw[i1]; simp
   rw[Zg1] at i3
   fail "i"
   fail "g"
   refine⟨fun w=>?_,fun w=>?_⟩
   ·have w:Zan l≠n:=by simpa using w
    rw[if_neg w] at i3
    fail "i"
    refine Ye4 i5 ?_
    rw[Zpf]
    fail "g"
    refine⟨fun v=>?_,fun v=>?_⟩
    ·fail "g"
     rw[if_pos (of_decide_eq_true v)] at i3
     rw[<- i3] at fj
     have e:Zxe (Zeg a b n)=.non:=by rw[<- fj]; rfl
     rw[<- e]; exact q _ i6
    ·fail "g"
     rw[if_neg (of_decide_eq_false v)] at i3
     refine Zpz i5 (by have:=i4.len; simp; omega) ?_
     rw[Zzb]
     fail "g"
     refine⟨pre++[l],r,_,_,i1',rfl,i3,?_,Zhu i5,i6.new (Fm.set (S:=[H.length]) (by simp)) (fun q hq _=>by simp at hq; subst hq; exact Xd _),rfl⟩
     have:=Zo4 (M:=M) (n:=n) [l] zs (by simpa using hl) i4 (if l∈zs then zs else zs++[l]) (by rw[Zg1,if_neg w,if_neg (of_decide_eq_false v)]; rfl)
     exact this
   ·have w:Zan l=n:=by simpa using w
    rw[if_pos w] at i3
    fail "g"
    exact⟨pre++[l],r,zs,_,i1',rfl,i3,i4,i5,i6,rfl⟩
 ·obtain⟨pre,r,zs,z4,i1,i2,i3,i4,i5,i6,i7⟩:=zz
  subst i7
  cases r with
  | cons l r=>cases i2
  | nil =>
   rw[<- i3] at fj
   have e:Zxe (Zeg a b n)=.tup ((Zda zs).map .int):=by rw[<- fj]; rfl
   fail "g"
   refine Zqn i5 (by have:=i4.len; omega) i4.nd ?_
   fail "g"
   rw[<- e]
   exact q _ (i6.trans (Fm.app _))
nonrec def nms (ks:List D):List Int:=((Wcv ks.length).map fun k:Nat=>(k:Int)+1).filter fun n => !Zd1 ks n
theorem Zuu {ks:List D} {n:Int}:n∈nms ks ↔ 1<=n/\n<=ks.length/\Zd1 ks n=false:=by
 unfold nms
 rw[Waa,Xn]
 constructor
 ·rintro⟨⟨k,hk,rfl⟩,h⟩
  rw[Wbk] at hk
  exact⟨by omega,by omega,by simpa using h⟩
 ·rintro⟨h1,h2,h3⟩
  exact⟨⟨(n - 1).toNat,by rw[Wbk]; omega,by omega⟩,by rw[h3]; rfl⟩
theorem Ztk {ks:List D} {rss:List (List Int)} {P:List D->HD->Prop} (hk:∀ d∈ks,Zcc d) (h8:ks.length<=8) (q:P ((nms ks).map .int) H) :
  ∃ j:Int,[D.int ks.length]=[D.int j]/\Zn1 j/\wA (Zew [] (Zuz [0,1] (some (Zal ks rss)::some (.str "some")::σ)) (tOf (eOp neD (eOp ixD (eOp ixD (Zac 1) (eC (.int 0))) (Zac 0)) (Zac 2))) (eOp Zb6 (Zac 0) (eC (.int 1))) (Zba 0 j.toNat) H) P:=by
 refine⟨_,rfl,⟨by omega,by omega⟩,?_⟩ -- w_names2
 rw[Waf]
 have ab:∀ k:Nat,Zan ((k:Int)+1)=(k:Int)+1:=fun k=>by unfold Zan; split<;>omega
 refine Yb0 (fun d=>match d with | .int k => !Zd1 ks (k+1) | _=>false) (fun d=>match d with | .int k=>.int (k+1) | d=>d) (fun H'=>H'=H) (fun _ j=>Ze8) _ (fun y hy H2 j=>?_) (fun y hy _ H2 j=>?_) _ rfl fun H2 j=>?_
 ·simp only[Zba,Xn,Wbk] at hy
  obtain⟨k,hk',rfl⟩:=hy
  rw[Int.zero_add]
  subst j
  show wT (tOf _ (some (.int (k:Int))::[some (Zal ks rss),some (.str "some")]) H2) _
  fail "g"
  have e:=Zk9 (x:=(k:Int)+1) hk (by rw[ab]; omega)
  rw[ab,show (k:Int)+1 - 1=k by omega] at e
  refine w_ixT e ?_
  fail "g"
  refine Zpl ?_
  exact⟨_,rfl,rfl,rfl⟩
 ·simp only[Zba,Xn,Wbk] at hy
  obtain⟨k,hk',rfl⟩:=hy
  subst j
  show wE (eOp Zb6 (Zac 0) (eC (.int 1)) (some (.int (0+(k:Int)))::[some (Zal ks rss),some (.str "some")]) H2) _
  fail "g"
  exact⟨rfl,rfl⟩
 ·subst j
  have ef:((Zba 0 ks.length).filter fun d=>match d with | .int k => !Zd1 ks (k+1) | _=>false).map (fun d=>match d with | .int k=>.int (k+1) | d=>d)=(nms ks).map D.int:=by
   unfold Zba nms
   rw[Wbn,Waw,Wbn,Waw]
   simp only[Tcl,Int.zero_add]
  rw[ef]
  exact q
variable {σ:SD} {H:HD} {Q:D->HD->Prop}
theorem Zga {made:List (List Int)} {i:Nat} (h:i<made.length):atI (made.map Zaz) (i:Int)=some (Zaz made[i]):=Zcj (by simp[h])
theorem Zpy {i:Int} (q:Q (.bl true) H):wE (Zf1 [.int i] H) Q:=by
 refine Za6 rfl ?_
 show wS (Zem [some (.int i)] H) _
 unfold Zem
 fail "g"
 exact q
theorem Zor {i m:Nat} (h:i<m) (q:Q (.bl true) H):wE (Zce [.int i,.int m] H) Q:=by
 refine Za6 rfl ?_
 show wS (Zca [some (.int i),some (.int m)] H) _
 unfold Zca
 fail "g"
 refine Zpy ?_
 fail "g"
 rw[decide_eq_true (by omega)]
 exact q
theorem Zl5 {i m:Nat} (h:i<m) (q:Q (.bl true) H):wE (Zcf [.int i,.int m] H) Q:=by
 refine Za6 rfl ?_
 show wS (Zds [some (.int i),some (.int m)] H) _
 unfold Zds
 fail "g"
 rw[decide_eq_true (by omega)]
 exact q
theorem Zps {n:Int} {ks:List D} (hk:∀ d∈ks,Zcc d) (hn:1<=n/\n<=ks.length) (ho:Zd1 ks n=false) (q:Q (.bl true) H):wE (Zcm [.tup ks,.str "some",.int n] H) Q:=by
 have ea:Zan n=n:=by unfold Zan; split<;>omega
 refine Za6 rfl ?_
 show wS (Zbh [some (.tup ks),some (.str "some"),some (.int n)] H) _
 unfold Zbh
 fail "g"
 refine Zpy ?_
 fail "g"
 refine⟨fun z=>?_,fun z=>absurd hn.1 (by simpa using z)⟩
 fail "g"
 refine⟨fun y=>?_,fun y=>absurd hn.2 (by simpa using y)⟩
 fail "g"
 rw[<- ea]
 refine w_ixT (Zk9 hk (by omega)) ?_
 fail "g"
 refine Zpl ?_
 rw[ho]
 fail "g"
 exact q
theorem Ycn {p:Nat} {bs:List Bool} (g:H[p]? = some (.lst (bs.map .bl))) (q:Q (.bl (bs.any id)) H):wE (Ydc [.ref p] H) Q:=⟨_,_,by simp only[Ydc,g]; rw[Zqo]; rfl,q⟩
theorem Zwu {pm:Nat} {fn:String} {ks:List D} {rss made:List (List Int)} {d:D} {x:List Int} (hk:∀ d∈ks,Zcc d) (h8:ks.length<=8) (hr:∀ ls∈rss,R ks.length ls) (hm:∀ ls∈made,R ks.length ls) (hf:fn = "told_term") (g:H[pm]? = some (.lst (made.map Zaz))) (h:St ks rss made d x)
  (q:∀ H',Fm [] H H'->Q (Zaz x) H'):wE (Zg3 [Zal ks rss,.str "some",.ty fn,.ref pm,d] H) Q:=by
 refine Za6 rfl ?_
 show wS (Zfo [some (Zal ks rss),some (.str "some"),some (.ty fn),some (.ref pm),some d] H) _
 unfold Zfo
 cases h with
 | less i hi =>
  fail "i"
  (refine WP.w_if ?_; fail "g")
  fail "g"
  refine Za6 rfl ?_
  show wS (Zcd [some (.tup ks),some (.str "some"),some (.ref pm),some (.tup [.str "less",.int i])] H) _
  unfold Zcd
  fail "i"
  fail "g"
  rw[Xo]
  refine Zor hi ?_
  fail "g"
  refine w_ixR g (Zga hi) ?_
  fail "g"
  refine Zk5 hk h8 (hm _ (Xy hi)) ?_
  fail "g"
  exact q H Fm.refl
 | row ls u hc =>
  fail "i"
  (refine WP.w_if ?_; fail "g")
  fail "i"
  fail "g"
  subst hf
  refine Yb3 rfl ?_
  fail "g"
  refine Za6 rfl ?_
  show wS (Zdw [some (Zal ks rss),some (.tup [.str "term",Zaz x])] H) _
  unfold Zdw
  fail "g"
  exact q H Fm.refl
 | joined i j n x hi hj hn ho e =>
  fail "i"
  (refine WP.w_if ?_; fail "g")
  fail "i"
  fail "g"
  refine Za6 rfl ?_
  show wS (Zbr [some (.tup ks),some (.str "some"),some (.ref pm),some (.tup [.str "joined",.int i,.int j,.int n])] H) _
  unfold Zbr
  fail "i"
  fail "g"
  rw[Xo]
  refine Zor hi ?_
  fail "g"
  rw[Xo]
  refine Zor hj ?_
  fail "i"
  refine Zps hk hn ho ?_
  fail "g"
  refine w_ixR g (Zga hi) ?_
  fail "g"
  refine w_ixR g (Zga hj) ?_
  fail "g"
  refine Zpv (hm _ (Xy hi)) (hm _ (Xy hj)) h8 fun H1 x1=>?_
  fail "g"
  rw[e]
  exact q _ x1
theorem w_inF {p:Nat} {bs:List Bool} (g:H[p]? = some (.lst (bs.map .bl))) (q:Q (.bl (!bs.all id)) H):wE (inD (.bl false) (.ref p) H) Q:=by
 have f:Fines (bs.map D.bl) (bs.map Tco) 0:=by
  clear g q
  induction bs with
  | nil=>exact .nil
  | cons b r ih=>exact .cons (.bl b) ih
 refine Yee (.bl false) f (by omega) (by omega) g ?_
 have:=Zyu bs
 rw[<- this,Wes] at q
 exact q
theorem Zyy {x:Int} {p:Nat} {ls:List Int} (g:H[p]? = some (.lst (ls.map .int))) (q:Q (.bl (!decide (x∈ls))) H):wE (niD (.int x) (.ref p) H) Q:=w_niL (.int x) (Zbn ls) (by omega) (by omega) g (by rw[Zl0]; exact q)
theorem Zti (ks:List D):(nms ks).length<=ks.length:=by
 have:=Wai (fun n => !Zd1 ks n) ((Wcv ks.length).map fun k:Nat=>(k:Int)+1)
 unfold nms
 simpa using this
theorem Zin {p r:Nat} {ds:List D} {xs:List Vz} {h:Nat} (f:Fines ds xs h) (hh:h<30) (g1:H[p]? = some (.lst ds)) (g2:H[r]? = some (.lst [])) (q:Q (.bl ds.isEmpty) H):wE (eqD (.ref p) (.ref r) H) Q:=by
 refine⟨_,_,Zv1 (f.dat hh g1) ((Fines.nil (h:=0)).dat (by omega) g2),?_⟩
 have e:Ub (.list xs) (.list [])=ds.isEmpty:=by
  have l:=f.len
  cases ds with
  | nil=>cases xs with
   | nil=>rfl
   | cons a b=>simp at l
  | cons d r=>cases xs with
   | nil=>simp at l
   | cons a b=>simp[Ub,Uq]
 rw[e]; exact q
theorem Zsc {ks:List D} {rss:List (List Int)} {ls:List Int} (h8:ks.length<=8) (hr:∀ ls∈rss,R ks.length ls) (u:Up ks.length 0 ls) (h:∀ row∈rss,∃ l∈row,l∈ls) (q:∀ H',Fm [] H H'->Q (Zaz ls) H'):wE (Zgr [Zal ks rss,.str "some",Zaz ls] H) Q:=by
 refine Za6 rfl ?_
 show wS (Zdt [some (Zal ks rss),some (.str "some"),some (.tup (ls.map .int)),none,none,none] H) _
 unfold Zdt
 fail "i"
 fail "i"
 refine Zub (fun σ' H'=>H'=H/\∃ z3 z4,σ'=[some (Zal ks rss),some (.str "some"),some (.tup (ls.map .int)),z3,z4,none]) ?_ ?_
 ·refine Zbo (fun d t σ H'=>H'=H/\∃ (r:List Int) (last:Int) (z:Option D),t=r.map .int/\Up ks.length last r/\σ=[some (Zal ks rss),some (.str "some"),some (.tup (ls.map .int)),some (.int last),z,none]) (fun _ _ _ _ _=>Ze8) (fun d x t σ H1 zz=>?_) (fun d σ H1 zz=>?_) _ [] _ _ ⟨rfl,ls,0,_,rfl,u,rfl⟩
  ·obtain⟨e1,r,last,z,e2,e3,e4⟩:=zz
   subst e1 e4
   cases r with
   | nil=>cases e2
   | cons l r =>
    obtain⟨rfl,rfl⟩:=Wbe.inj (show x::t=.int l::r.map .int from e2)
    obtain⟨h1,h2,h3⟩:=e3
    fail "i"
    fail "i"
    refine w_bT (decide_eq_true (by omega)) ?_
    fail "g"
    refine w_bF (by rw[decide_eq_true (by omega)]; rfl) ?_
    fail "g"
    exact⟨rfl,r,Zan l,_,rfl,h3,rfl⟩
  ·obtain⟨e1,r,last,z,e2,e3,e4⟩:=zz
   subst e1 e4
   exact⟨rfl,rfl,_,_,rfl⟩
 rintro _ H9 ⟨e9,z3,z4,rfl⟩
 rw[e9]
 clear e9 H9
 fail "g"
 refine Zbo (fun d t σ H'=>∃ (rs:List (List Int)) (z2:Option D),(∀ row∈rs,row∈rss)/\t=rs.map Zaz/\Fm [] H H'/\σ=[some (Zal ks rss),some (.str "some"),some (.tup (ls.map .int)),z3,z4,z2]) (fun _ _ _ _ _=>Ze8) (fun d x t σ H1 zz=>?_) (fun d σ H1 zz=>?_) _ [] _ _ ⟨rss,_,fun _ h=>h,rfl,Fm.refl,rfl⟩
 ·obtain⟨rs,z2,i1,i2,i4,i5⟩:=zz
  subst i5
  cases rs with
  | nil=>cases i2
  | cons row rs =>
   obtain⟨rfl,rfl⟩:=Wbe.inj i2
   have hm:=i1 row (by simp)
   have lr:=(hr row hm).len
   fail "i"
   refine⟨row.map .int,[],rfl,?_⟩
   refine Zb2 (fun d=>decide (Zl6 d∈ls)) (fun H'=>H'=H1) (fun _ j=>Ze8) _ (fun y hy H3 j=>?_) _ rfl fun H3 j=>?_
   ·obtain⟨z,hz,rfl⟩:=Xn.mp hy
    subst j
    fail "g"
    refine Zxi ?_
    exact⟨_,rfl,rfl,rfl⟩
   subst j
   have ef:((row.map D.int).filter fun d=>decide (Zl6 d∈ls))=(row.filter fun l=>decide (l∈ls)).map D.int:=by rw[Wbn]; rfl
   rw[ef]
   have fl:=Wai (fun l=>decide (l∈ls)) row
   refine⟨by simp; omega,?_⟩
   fail "g"
   refine Zin (Zbn _) (by omega) (appL last) last ?_
   fail "g"
   have en:((row.filter fun l=>decide (l∈ls)).map D.int).isEmpty=false:=by
    obtain⟨l,h1,h2⟩:=h row hm
    cases e:(row.filter fun l=>decide (l∈ls)) with
    | nil=>have:=Wci.mp e l h1; simp[h2] at this
    | cons a b=>rfl
   rw[en]
   fail "g"
   exact⟨rs,_,fun r hr=>i1 r (by simp[hr]),rfl,(i4.trans (Fm.app _)).trans (Fm.app _),rfl⟩
 ·obtain⟨rs,z2,i1,i2,i4,i5⟩:=zz
  subst i5
  fail "g"
  exact q _ i4
theorem Zsp {pm:Nat} {ks:List D} {rss made:List (List Int)} {d:D} {x:List Int} (hk:∀ d∈ks,Zcc d) (h8:ks.length<=8) (hr:∀ ls∈rss,R ks.length ls) (hm:∀ ls∈made,R ks.length ls) (g:H[pm]? = some (.lst (made.map Zaz))) (h:St ks rss made d x)
  (q:∀ H',Fm [] H H'->Q (Zaz x) H'):wE (Zh0 [Zal ks rss,.str "some",.ref pm,d] H) Q:=by
 refine Za6 rfl ?_
 show wS (Zec [some (Zal ks rss),some (.str "some"),some (.ref pm),some d,none] H) _
 unfold Zec
 cases h with
 | less i hi =>
  fail "i"
  (refine WP.w_if ?_; fail "g")
  fail "g"
  rw[Xo]
  refine Zl5 hi ?_
  fail "g"
  refine w_ixR g (Zga hi) ?_
  fail "g"
  refine Zsr hk h8 (hm _ (Xy hi)) fun H1 x1=>?_
  fail "g"
  exact q _ x1
 | row ls u hc =>
  fail "i"
  (refine WP.w_if ?_; fail "g")
  fail "i"
  fail "i"
  fail "g"
  refine Zsc h8 hr u hc fun H1 x1=>?_
  fail "g"
  exact q _ ((Fm.app _).trans x1)
 | joined i j n x hi hj hn ho e =>
  fail "i"
  (refine WP.w_if ?_; fail "g")
  fail "i"
  refine Ztk hk h8 ⟨by have:=Zti ks; simp; omega,?_⟩
  have X1:Fm [] H (H++[DO.lst ((nms ks).map .int)]):=Fm.app _
  fail "i"
  refine wE_of (d:=.tup [.int i,.int j]) (by with_unfolding_all rfl) ?_
  fail "g"
  refine Zkt (fun d=>.bl true) (fun H'=>H'=H++[DO.lst ((nms ks).map .int)]) (fun _ _=>Ze8) _ (fun y hy H2 jj=>?_) _ rfl fun H2 jj=>?_
  ·subst jj
   obtain⟨m,rfl,hm2⟩:∃ m:Nat,y=.int m/\m<made.length:=by
    rcases Xj.mp hy with rfl | hy
    ·exact⟨_,rfl,hi⟩
    ·rw[Wbx.mp hy]; exact⟨_,rfl,hj⟩
   show wE (Zap 2 Zcf (Zab (Zac 0) (Zab (eCB Zc7 (Zab (Zac 1) Zag)) Zag)) (some (.int m)::[some (.ref pm)]) _) _
   fail "g"
   rw[Xo]
   refine Zl5 hm2 ?_
   exact⟨rfl,rfl⟩
  subst jj
  refine⟨by simp,?_⟩
  refine w_inF (bs:=[true,true]) last ?_
  have X2:=X1.trans (Fm.app (S:=[]) [DO.lst [D.bl true,D.bl true]])
  fail "i"
  obtain⟨m,rfl⟩:∃ m:Nat,n=m:=⟨n.toNat,by omega⟩
  refine Zl5 (m:=ks.length+1) (by omega) ?_
  fail "g"
  refine Zyy (appL last) ?_
  rw[decide_eq_true (Zuu.mpr ⟨hn.1,hn.2,ho⟩)]
  fail "g"
  refine w_ixR (appL (appL g)) (Zga hi) ?_
  fail "g"
  refine w_ixR (appL (appL g)) (Zga hj) ?_
  fail "g"
  refine Zjo (hm _ (Xy hi)) (hm _ (Xy hj)) h8 hn.1 fun H1 x1=>?_
  fail "g"
  rw[e]
  exact q _ (X2.trans x1)
variable {σ:SD} {H:HD} {Q:D->HD->Prop}
structure CR (ks:List D) (rss:List (List Int)):Prop where
 hk:∀ d∈ks,Zcc d
 h8:ks.length<=8
 hr:∀ ls∈rss,R ks.length ls
 hl:rss.length<=1000
theorem Yaf {f:AF} {I:List D->Zgy->HD->Prop} (h:wA (f σ H) fun ds H1=>∃ n xs,ds=[.ref n]/\H1[n]? = some (.lst xs)/\I (Zck 0 xs) [(n,.lst xs)] H1):wI (Zqy f σ H) I:=by
 obtain⟨ds,H1,e,n,xs,rfl,g,q⟩:=h
 exact⟨_,_,_,by unfold Zqy; rw[e]; simp only[Zb]; rw[g],q⟩
nonrec abbrev amB:SF:=(Zaf (Zbe 7 (Zap 5 Zg3 (Zab (Zac 0) (Zab (Zac 1) (Zab (Zac 2) (Zab (Zac 4) (Zab (Zac 6) Zag)))))))
 (Zaf (sIf (tOf (eOp isD (Zac 7) (eC .non))) (Zaf sErr Zaj) Zaj) (Zaf (Zbw (eLM Zbg (Zac 4) (Zab (Zac 7) Zag))) Zaj)))
nonrec abbrev amG:GF:=gTp 2 (gCn (gNm 5) (gCn (gNm 6) gNl))
section
variable {k w pm:Nat} {ks:List D} {rss made:List (List Int)} {d sd:D} {x:List Int} {n:Int} {z5 z6 z7:Option D}
theorem Yc6 {fn:String} {K:SD->HD->Prop} {Z:FD->SD->HD->Prop} (c:CR ks rss) (hf:fn = "told_term") (hm:∀ ls∈made,R ks.length ls) (hl:made.length<=1000) (g:H[pm]? = some (.lst (made.map Zaz))) (e:stp ks rss made d=some x)
  (q:∀ H2,Fm [pm] H H2->H2[pm]? = some (.lst ((made++[x]).map Zaz))->K [some (Zal ks rss),some (.str "some"),some (.ty fn),some sd,some (.ref pm),some (.int n),some d,some (Zaz x)] H2) :
  wG (amG (.tup [.int n,d]) [some (Zal ks rss),some (.str "some"),some (.ty fn),some sd,some (.ref pm),z5,z6,z7] H) fun σ1 H1=>wS (amB σ1 H1) (again K Z):=by
 fail "g"
 refine Zwu c.hk c.h8 c.hr hm hf g (.of e) fun H1 x1=>?_
 show wS _ _
 fail "i"
 refine⟨isl (x1.lst (by simp) g),?_⟩
 fail "g"
 refine Ze3 (x1.lst (by simp) g) (by simp; omega) ?_
 fail "g"
 refine q _ ((x1.sub (by simp)).trans (Fm.set (by simp))) ?_
 rw[Zhu (x1.lst (by simp) g)]
 simp
end
section
variable {k ps:Nat} {ks:List D} {rss:List (List Int)} {ds:List D}
theorem Zhd (c:Nat) (d:D) (r:List D):Zck (c:Int) (d::r)=.tup [.int c,d]::Zck ((c+1:Nat):Int) r:=by
 rw[Zck]
 simp
theorem Zlg {made:List (List Int)} {pre:List D} {d:D} {x:List Int} (ok:mok ks rss made pre=true) (e:stp ks rss (mad ks rss made pre) d=some x):mok ks rss made (pre++[d])=true/\mad ks rss made (pre++[d])=mad ks rss made pre++[x]:=by
 rw[Zis,ok,Zlc _ _ _ _ _ ok]
 simp only[mok,mad,e,Bool.true_and,and_self]
theorem Zwb {fn:String} (c:CR ks rss) (hf:fn = "told_term") (g:H[ps]? = some (.lst ds)) (hl:ds.length<=1000) (ok:mok ks rss [] ds=true)
  (q:∀ p H',H'[p]? = some (.lst ((mad ks rss [] ds).map Zaz))->H.length<=p->Fm [] H H'->Q (.ref p) H'):wE (Zh1 [Zal ks rss,.str "some",.ty fn,.ref ps] H) Q:=by
 refine Za6 rfl ?_
 show wS (Zer [some (Zal ks rss),some (.str "some"),some (.ty fn),some (.ref ps),none,none,none,none] H) _
 unfold Zer
 fail "g"
 refine Yaf ?_
 fail "g"
 refine⟨_,_,rfl,appL g,?_⟩
 have np:H.length≠ps:=by have:=(Xc.mp g).1; omega
 refine Zbo (g:=amG) (b:=amB) (fun d t σ H'=>∃ (pre r:List D) (z5 z6 z7:Option D),ds=pre++r/\t=Zck (pre.length:Int) r/\mok ks rss [] pre=true/\H'[H.length]? = some (.lst ((mad ks rss [] pre).map Zaz))/\Fm [] H H'/\σ=[some (Zal ks rss),some (.str "some"),some (.ty fn),some (.ref ps),some (.ref H.length),z5,z6,z7]) (by rintro d t σ H' ⟨pre,r,z5,z6,z7,i1,i2,i3,i4,i5,i6⟩; exact Zot (i5.lst (by simp) g)) (fun d x tt σ H1 zz=>?_) (fun d σ H1 zz=>?_) _ [] _ _ ⟨[],ds,_,_,_,rfl,rfl,rfl,last,Fm.app _,rfl⟩
 ·obtain⟨pre,r,z5,z6,z7,i1,i2,i3,i4,i5,i6⟩:=zz
  subst i6
  cases r with
  | nil=>cases i2
  | cons d0 r =>
   rw[Zhd] at i2
   obtain⟨rfl,rfl⟩:=Wbe.inj i2
   have o2:=ok
   rw[i1,Zis,i3,Bool.true_and] at o2
   cases e:stp ks rss (mad ks rss [] pre) d0 with
   | none=>simp only[mok,e] at o2; cases o2
   | some x =>
    obtain⟨s1,s2⟩:=Zlg i3 e
    have lm:=Zkd ks rss pre [] i3
    have ld:pre.length<ds.length:=by rw[i1]; simp
    refine Yc6 c hf (Ztj c.hr pre [] (by simp)) (by simp at lm; omega) i4 e fun H2 x2 g2=>?_
    exact⟨pre++[d0],r,_,_,_,by rw[i1]; simp,by simp,s1,by rw[s2]; exact g2,i5.new x2 (fun q hq _=>by simp at hq; subst hq; exact Xd _),rfl⟩
 ·obtain⟨pre,r,z5,z6,z7,i1,i2,i3,i4,i5,i6⟩:=zz
  subst i6
  cases r with
  | cons d0 r=>rw[Zhd] at i2; cases i2
  | nil =>
   rw[Wab] at i1
   subst i1
   fail "g"
   exact q _ _ i4 (Xd _) i5
end
theorem Zuq {p r:Nat} {xs ys:List D} (g1:H[p]? = some (.lst xs)) (g2:H[r]? = some (.lst ys)) (h:xs.length+ys.length<=1000000) (q:Q (.ref H.length) (H++[.lst (xs++ys)])):wE (Zb6 (.ref p) (.ref r) H) Q:=by
 refine⟨_,_,?_,q⟩
 simp only[Zb6,g1,g2]
 exact if_pos (Zfm (by rw[Xq]; exact h))
theorem Ydx {p r:Nat} {ds:List D} {xs:List Vz} {h:Nat} (f:Fines ds xs h) (hh:h<30) (g1:H[p]? = some (.lst ds)) (g2:H[r]? = some (.lst ds)) (q:Q (.bl false) H):wE (neD (.ref p) (.ref r) H) Q :=
 ⟨_,_,Zo2 (f.dat hh g1) (f.dat hh g2),by rw[Zmf (.list xs) f.lay]; exact q⟩
theorem Zrw (rss:List (List Int)):∃ xs,Fines (rss.map Zaz) xs 1:=Fines.of _ fun d hd=>by
 obtain⟨ls,_,rfl⟩:=Xn.mp hd
 exact⟨_,Fine.tup (Zbn ls)⟩
variable {σ:SD} {H:HD} {Q:D->HD->Prop}
theorem Zws {a b:Bool} (q:Q (.bl (a==b)) H):wE (eqD (.bl a) (.bl b) H) Q:=w_eqF (.bl a) (.bl b) (by omega) (by omega) (by simpa [Ub] using q)
theorem Yfg {bs:List Bool} {l:Int} (q:Q (.bl (opn bs l)) H):wE (Zg2 [.int l,Zaq bs] H) Q:=by
 refine Za6 rfl ?_
 show wS (Zff [some (.int l),some (Zaq bs)] H) _
 unfold Zff
 fail "g"
 exact q
theorem Zvk {bs:List Bool} {l:Int} (h0:0<Zan l) (q:Q (.bl (rig bs l)) H):wE (Zdn [.int l,Zaq bs] H) Q:=by
 refine Za6 rfl ?_
 show wS (Zep [some (.int l),some (Zaq bs)] H) _
 unfold Zep
 fail "g"
 refine Yfg ?_
 fail "g"
 cases ho:opn bs l with
 | true =>
  have e:rig bs l=false:=by
   unfold rig
   have:=of_decide_eq_true ho
   rw[Wby (by omega)]
  rw[e] at q
  fail "g"
  exact q
 | false =>
  have hh:=of_decide_eq_false ho
  have lt:(Zan l - 1).toNat<bs.length:=by omega
  fail "g"
  unfold Zaq
  refine w_ixT (Zgw (by omega) (d:=.bl (bs[(Zan l - 1).toNat])) (by rw[Xr,Xg lt]; rfl)) ?_
  fail "g"
  refine Zws ?_
  have e:rig bs l=(bs[(Zan l - 1).toNat]==decide (0<l)):=by
   unfold rig
   rw[Xg lt]
  rw[e] at q
  exact q
theorem Ycg {p:Nat} {bs:List Bool} (g:H[p]? = some (.lst (bs.map .bl))) (q:Q (.bl (bs.all id)) H):wE (Zzi [.ref p] H) Q:=by
 exact⟨_,_,Zzg g,by simpa using q⟩
theorem Ybq {bs:List Bool} {l:Int} (h:rig bs l=true) (h1:1<=Zan l):Zan l<=bs.length:=by
 unfold rig at h
 by_cases z:(Zan l - 1).toNat<bs.length
 ·omega
 ·rw[Wby (by omega)] at h; cases h
theorem Zp9 {bs:List Bool}:∀ {ls:List Int},(∀ l∈ls,1<=Zan l)->(ls.map (rig bs)).all id=Zdv bs ls
 | [],_=>rfl
 | l::r,h=>by
  have ih:=Zp9 (bs:=bs) (ls:=r) fun x hx=>h x (by simp[hx])
  have e:Zdv bs (l::r)=((decide (Zan l<=bs.length)&&rig bs l)&&Zdv bs r):=rfl
  rw[e,Xl,Wcn,ih]
  cases hr:rig bs l with
  | false=>simp
  | true=>rw[decide_eq_true (Ybq hr (h l (by simp)))]; rfl
theorem Zxo {bs:List Bool} {ls:List Int} (h:∀ l∈ls,1<=Zan l) (hl:ls.length<=1000) (q:∀ H',Fm [] H H'->Q (.bl (Zdv bs ls)) H'):wE (Zfi [.str "some",Zaz ls,Zaq bs] H) Q:=by
 refine Za6 rfl ?_
 show wS (Zc2 [some (.str "some"),some (.tup (ls.map .int)),some (Zaq bs)] H) _
 unfold Zc2
 fail "i"
 fail "g"
 refine Zkt (fun d=>.bl (rig bs (Zl6 d))) (fun H'=>H'=H) (fun _ _=>Ze8) _ (fun y hy H2 j=>?_) _ rfl fun H2 j=>?_
 ·obtain⟨z,hz,rfl⟩:=Xn.mp hy
  subst j
  show wE (Zap 2 Zdn (Zab (Zac 0) (Zab (Zac 1) Zag)) (some (.int z)::[some (Zaq bs)]) _) _
  fail "g"
  refine Zvk (by have:=h z hz; omega) ?_
  exact⟨rfl,rfl⟩
 subst j
 refine⟨by simp; omega,?_⟩
 rw[show (ls.map D.int).map (fun d=>D.bl (rig bs (Zl6 d)))=(ls.map (rig bs)).map D.bl by rw[Waw,Waw]; rfl]
 fail "g"
 refine Ycg last ?_
 rw[Zp9 h]
 fail "g"
 exact q _ (Fm.app _)
theorem Yd4 {n:Int} (q:Q (.int (-n)) H):wE (Zcz [.str "some",.int n,.bl false] H) Q:=by
 refine Za6 rfl ?_
 show wS (Zbi [some (.str "some"),some (.int n),some (.bl false)] H) _
 unfold Zbi
 fail "g"
 refine Zws ?_
 fail "g"
 exact q
theorem Ycc {n:Int} (q:Q (.int n) H):wE (Zcz [.str "some",.int n,.bl true] H) Q:=by
 refine Za6 rfl ?_
 show wS (Zbi [some (.str "some"),some (.int n),some (.bl true)] H) _
 unfold Zbi
 fail "g"
 refine Zws ?_
 fail "g"
 exact q
section
variable {ps:Nat} {ks:List D} {rss:List (List Int)} {ds:List D} {bs:List Bool}
theorem Zs1 {p:Nat} {xs:List D} (g:H[p]? = some (.lst xs)):Zwk (.ref p) H=some (xs,[(p,.lst xs)]):=by simp[Zwk,g]
theorem Zs3:∀ (a:List D) (b:List (List Int)),Zqc a (b.map Zaz)=(a.zip b).map fun e=>.tup [e.1,Zaz e.2]
 | [],b=>by cases b<;>rfl
 | x::a,[]=>rfl
 | x::a,y::b=>by
  show .tup [x,Zaz y]::Zqc a (b.map Zaz)=_
  rw[Zs3 a b]
  rfl
theorem Zu9 (c:CR ks rss) (g:H[ps]? = some (.lst ds)) (hl:ds.length<=1000) (h8:bs.length<=8) (ok:mok ks rss [] ds=true)
  (q:∀ H',Fm [] H H'->Q (.bl (Zny (mad ks rss [] ds) bs (ds.zip (mad ks rss [] ds)))) H'):wE (Zhr [Zal ks rss,.ref ps,Zaq bs] H) Q:=by
 refine Za6 rfl ?_
 show wS (Zeb [some (Zal ks rss),some (.ref ps),some (Zaq bs)] H) _
 unfold Zeb
 fail "g"
 refine Za6 rfl ?_
 show wS (Zeo [some (Zal ks rss),some (.str "some"),some (.ty "told_term"),some (.ref ps),some (Zaq bs),none,none,none,none,none] H) _
 unfold Zeo
 fail "g"
 refine Zwb c rfl g hl ok fun p H1 g1 l1 x1=>?_
 have gs:=x1.lst (by simp) g
 fail "g"
 refine⟨_,_,_,_,rfl,Zs1 gs,Zs1 g1,?_⟩
 generalize hm:mad ks rss [] ds=made at *
 have hR:∀ ls∈made,R ks.length ls:=by rw[<- hm]; exact Ztj c.hr ds [] (by simp)
 have hSt:∀ e∈ds.zip made,∃ mk,St ks rss (made.take mk) e.1 e.2/\e.2∈made:=by
  intro e he
  obtain⟨m,hm1,rfl⟩:=Wcq.mp he
  have hm2:m<ds.length:=by rw[Wer] at hm1; omega
  have hm3:m<made.length:=by rw[Wer] at hm1; omega
  obtain⟨x,e1,e2⟩:=Zzn ok hm2
  rw[hm] at e1 e2
  rw[Xg hm3] at e1
  cases e1
  rw[Wef]
  exact⟨m,St.of e2,Xy _⟩
 rw[Zs3]
 refine Zbo (fun d t σ H'=>∃ (r:List (D×List Int)) (z7 z8 z9:Option D),(∀ e∈r,e∈ds.zip made)/\t=r.map (fun e=>.tup [e.1,Zaz e.2])/\Zny made bs (ds.zip made)=Zny made bs r/\Fm [] H1 H'/\σ=[some (Zal ks rss),some (.str "some"),some (.ty "told_term"),some (.ref ps),some (Zaq bs),some (.ref p),some (.int ((bs.length:Int)+1)),z7,z8,z9])
  (by rintro d t σ H' ⟨r,z7,z8,z9,i1,i2,i3,i4,i5⟩ pp hp; simp at hp; rcases hp with rfl | rfl; exact i4.lst (by simp) gs; exact i4.lst (by simp) g1) (fun d x t σ H2 ⟨r,z7,z8,z9,i1,i2,i3,i4,i5⟩=>?_) (fun d σ H2 ⟨r,z7,z8,z9,i1,i2,i3,i4,i5⟩=>?_) _ [] _ _ ⟨_,_,_,_,fun e he=>he,rfl,rfl,Fm.refl,rfl⟩
 ·subst i5
  cases r with
  | nil=>cases i2
  | cons e r =>
   obtain⟨rfl,rfl⟩:=Wbe.inj (show x::t=.tup [e.1,Zaz e.2]::r.map _ from i2)
   obtain⟨m,st,em⟩:=hSt e (i1 e (by simp))
   obtain⟨dd,row⟩:=e
   have again:pk1 made bs dd row=none->Zny made bs (ds.zip made)=Zny made bs r:=fun h=>by
    rw[i3,Zny]
    simp only[h]
    rfl
   have i1':∀ e∈r,e∈ds.zip made:=fun e he=>i1 e (by simp[he])
   have st:St ks rss (made.take m) dd row:=st
   cases st with
   | less i hi =>
    rw[Wat] at hi
    fail "i"
    have em':Zbj ks (made.take m)[i]∈made:=em
    have hk8:=c.h8
    refine Zxo (fun l hl=>((hR _ em').rg l hl).1) (Wag (hR _ em').len (by omega)) fun H3 x3=>?_
    have i4:=i4.trans x3
    have g1:=i4.lst (by simp) g1
    fail "g"
    cases lost:Zdv bs (Zbj ks (made.take m)[i]) with
    | false =>
     fail "g"
     exact⟨r,_,_,_,i1',rfl,again (Ztt lost),i4,rfl⟩
    | true =>
     have hi':i<made.length:=by omega
     have eg:made.getD i []=made[i]:=by rw[Xx,Xg hi']; rfl
     fail "g"
     refine⟨_,_,rfl,?_⟩
     refine Zfl Ze8 ?_
     fail "i"
     refine Yd4 ?_
     fail "g"
     refine w_ixR g1 (Zga hi') ?_
     fail "g"
     refine Zxi ?_
     cases y1:decide (-((bs.length:Int)+1)∈made[i]) with
     | true =>
      fail "g"
      have:Zny made bs (ds.zip made)=false:=by
       rw[i3,Zny]
       simp only[pk1]
       rw[if_pos ⟨trivial,lost⟩,Waf,eg,if_pos (of_decide_eq_true y1)]
       rfl
      rw[this] at q
      exact q _ (x1.trans i4)
     | false =>
      fail "g"
      refine Zfl Ze8 ?_
      fail "i"
      refine Ycc ?_
      fail "g"
      refine w_ixR g1 (Zga hi') ?_
      fail "g"
      refine Zxi ?_
      cases y2:decide (((bs.length:Int)+1)∈made[i]) with
      | true =>
       fail "g"
       have:Zny made bs (ds.zip made)=true:=by
        rw[i3,Zny]
        simp only[pk1]
        rw[if_pos ⟨trivial,lost⟩,Waf,eg,if_neg (of_decide_eq_false y1),if_pos (of_decide_eq_true y2)]
        rfl
       rw[this] at q
       exact q _ (x1.trans i4)
      | false =>
       fail "g"
       refine Zn5 Ze8 ?_
       fail "g"
       refine⟨r,_,_,_,i1',rfl,again ?_,i4,rfl⟩
       simp only[pk1]
       rw[if_pos ⟨trivial,lost⟩,Waf,eg,if_neg (of_decide_eq_false y1),if_neg (of_decide_eq_false y2)]
   | row ls u hc =>
    fail "i"
    exact⟨r,_,_,_,i1',rfl,again rfl,i4,rfl⟩
   | joined i j n x hi hj hn ho e =>
    fail "i"
    exact⟨r,_,_,_,i1',rfl,again rfl,i4,rfl⟩
 ·subst i5
  cases r with
  | cons e r=>cases i2
  | nil =>
   fail "g"
   rw[i3] at q
   exact q _ (x1.trans i4)
end
variable {σ:SD} {H:HD} {Q:D->HD->Prop}
nonrec def two (bs:List Bool):List (List Bool):=[bs++[false],bs++[true]]
nonrec def lev:Nat->List (List Bool)
 | 0=>[[]]
 | k+1=>(lev k).flatMap two
theorem Zez:∀ (k:Nat),∀ bs∈lev k,bs.length=k
 | 0,bs,h=>by simp[lev] at h; subst h; rfl
 | k+1,bs,h=>by
  obtain⟨x,hx,h⟩:=Wdl.mp h
  have:=Zez k x hx
  simp only[two,Xj,Wbq,or_false] at h
  rcases h with rfl | rfl<;>simp[this]
theorem Zus (xs:List (List Bool)):(xs.flatMap two).length=2*xs.length:=by
 induction xs with
 | nil=>rfl
 | cons x r ih=>rw[Wfk,Xq,ih]; simp[two]; omega
theorem Zq5:∀ k:Nat,(lev k).length=2 ^ k
 | 0=>rfl
 | k+1=>by
  show ((lev k).flatMap two).length=_
  rw[Zus,Zq5 k,Wet]; omega
theorem Zhk {k:Nat} (h:k<=8):(lev k).length<=256:=by
 rw[Zq5]
 exact Wag (Wbz (by omega) h) (by decide)
theorem Zye {k:Nat} {bs:List Bool} (t:Bool) (h:bs∈lev k):bs++[t]∈lev (k+1):=by
 refine Wdl.mpr ⟨bs,h,?_⟩
 cases t<;>simp[two]
theorem Zjl:∀ k:Nat,(lev k).Nodup
 | 0=>by simp[lev]
 | k+1=>by
  have:∀ xs:List (List Bool),xs.Nodup->(xs.flatMap two).Nodup:=fun xs=>by
   induction xs with
   | nil=>intro _; simp
   | cons x r ih =>
    intro h
    obtain⟨h1,h2⟩:=Wav.mp h
    rw[Wfk]
    refine Waq.mpr ⟨by simp[two],ih h2,?_⟩
    intro a ha b hb e
    subst e
    obtain⟨y,hy,hb⟩:=Wdl.mp hb
    simp only[two,Xj,Wbq,or_false] at ha hb
    have:x=y:=by
     rcases ha with ha | ha<;>rcases hb with hb | hb<;>rw[ha] at hb<;>exact(List.append_inj' hb rfl).1
    exact h1 (this ▸ hy)
  exact this _ (Zjl k)
theorem Yef {p q:Nat} {xs ys:List D} (h1:H[p]? = some (.lst xs)) (h2:H[q]? = some (.lst ys)) (hl:xs.length+ys.length<=100000) (k:Q (.ref H.length) (H++[.lst (xs++ys)])):wE (Zb6 (.ref p) (.ref q) H) Q:=by
 have z:(xs++ys).length<=sizeLine:=Zfm (by simp; omega)
 exact⟨_,_,by simp only[Zb6,h1,h2]; exact if_pos z,k⟩
theorem Zxg {k q:Nat} {a0 a2 z4:Option D} {R:FD->SD->HD->Prop} {H:HD} (hk:k<=8) (g:H[q]? = some (.lst ((lev k).map Zaq)))
  (h:∀ m z H',H'[m]? = some (.lst ((lev (k+1)).map Zaq))->ExtS [] H H'->R .nx [a0,some (.ref q),a2,some (.ref m),z] H') :
  wS (Zif [(q,.lst ((lev k).map Zaq))] (gNm 4) (Zaf (Zbe 3 (eOp Zb6 (Zac 3) (Zdj (Zab (eOp Zb6 (Zac 4) (Zdk (Zab (eC (.bl false)) Zag))) (Zab (eOp Zb6 (Zac 4) (Zdk (Zab (eC (.bl true)) Zag))) Zag))))) Zaj) ((lev k).map Zaq) [a0,some (.ref q),a2,some (.ref H.length),z4] (H++[.lst []])) R:=by
 have l256:=Zhk hk
 refine Zbo (fun d t σ H'=>∃ (dn td:List (List Bool)) (m:Nat) (z:Option D),d=dn.map Zaq/\t=td.map Zaq/\lev k=dn++td/\H'[m]? = some (.lst ((dn.flatMap two).map Zaq))/\H'[q]? = some (.lst ((lev k).map Zaq))/\ExtS [] H H'/\σ=[a0,some (.ref q),a2,some (.ref m),z]) (by rintro d t σ H' ⟨dn,td,m,z,i1,i2,i3,i4,i5,i6,i7⟩; exact Zot i5) (fun d x t σ H' zz=>?_) (fun d σ H' zz=>?_) _ [] _ _ ⟨[],lev k,H.length,z4,rfl,rfl,rfl,last,appL g,ExtS.app _,rfl⟩
 ·obtain⟨dn,td,m,z,i1,i2,i3,i4,i5,i6,i7⟩:=zz
  subst i7 i1
  obtain⟨b,tr,rfl,rfl,rfl⟩:∃ b tr,td=b::tr/\x=Zaq b/\t=tr.map Zaq:=by
   cases td with
   | nil=>cases i2
   | cons b tr=>obtain⟨e1,e2⟩:=Wbe.inj i2; exact⟨b,tr,rfl,e1,e2⟩
  have lb:b.length=k:=Zez k b (by rw[i3]; simp)
  have ln:dn.length<=256:=by have:=congrArg Wbo i3; simp at this; omega
  fail "g"
  refine Yef (appL i4) last (by rw[Xo,Zus]; simp; omega) ?_
  fail "g"
  refine⟨dn++[b],tr,_,_,by simp,rfl,by rw[i3]; simp,?_,appL (appL i5),(i6.trans (ExtS.app _)).trans (ExtS.app _),rfl⟩
  rw[last]
  simp[two]
 ·obtain⟨dn,td,m,z,i1,i2,i3,i4,i5,i6,i7⟩:=zz
  subst i7
  cases td with
  | cons b tr=>cases i2
  | nil =>
   rw[Wab] at i3
   subst i3
   exact h m z H' i4 i6
theorem Ziw {n:Nat} (hn:n<=8) (q:∀ p H',H'[p]? = some (.lst ((lev n).map Zaq))->ExtS [] H H'->Q (.ref p) H'):wE (Zcv [.int n] H) Q:=by
 refine Za6 rfl ?_
 show wS (Zdx [some (.int n),none,none,none,none] H) _
 unfold Zdx
 fail "g"
 refine⟨_,rfl,⟨by omega,by omega⟩,?_⟩
 rw[Waf]
 refine Zbo (fun d t σ H'=>∃ (m:Nat) (z2 z3 z4:Option D),d.length+t.length=n/\H'[m]? = some (.lst ((lev d.length).map Zaq))/\ExtS [] H H'/\σ=[some (.int n),some (.ref m),z2,z3,z4]) (fun _ _ _ _ _=>Ze8) (fun d x t σ H' zz=>?_) (fun d σ H' zz=>?_) _ [] _ _ ⟨H.length,none,none,none,by simp[Zba],last,ExtS.app _,rfl⟩
 ·obtain⟨m,z2,z3,z4,i1,i2,i3,i4⟩:=zz
  subst i4
  fail "g"
  refine Zxg (k:=d.length) (by simp at i1; omega) i2 fun m' z H2 g2 x2=>?_
  fail "g"
  refine⟨m',_,_,_,by simp at i1 ⊢; omega,by rw[g2]; simp,i3.trans x2,rfl⟩
 ·obtain⟨m,z2,z3,z4,i1,i2,i3,i4⟩:=zz
  subst i4
  simp only[Wbu,Wfn] at i1
  subst i1
  fail "g"
  exact q m H' i2 i3
nonrec def enc (bs:List Bool):List Int:=bs.map fun b=>if b then 1 else 0
theorem Zjh (bs:List Bool):nk (Zaq bs)=some (enc bs):=by
 show Znc (bs.map D.bl)=_
 induction bs with
 | nil=>rfl
 | cons b r ih =>
  rw[Xl,Znc,ih]
  cases b<;>rfl
theorem Zpd:∀ a b:List Bool,enc a=enc b->a=b
 | [],[],_=>rfl
 | [],_::_,h=>by simp[enc] at h
 | _::_,[],h=>by simp[enc] at h
 | x::a,y::b,h=>by
  have h1:(if x then (1:Int) else 0)=(if y then 1 else 0):=(Wbe.inj h).1
  have h2:enc a=enc b:=(Wbe.inj h).2
  rw[Zpd a b h2]
  cases x<;>cases y<;>simp at h1<;>rfl
nonrec def kvD (v:List Bool->D) (bs:List Bool):D×D:=(Zaq bs,v bs)
theorem Zqi {v:List Bool->D} {bs:List Bool}:∀ done:List (List Bool),bs∈done->Zbk (done.map (kvD v)) (enc bs)=some (v bs)
 | [],h=>by simp at h
 | x::r,h=>by
  unfold Zbk
  rw[Xl,Wcd]
  by_cases c:x=bs
  ·subst c
   have:(nk (kvD v x).1==some (enc x))=true:=by simp[kvD,Zjh]
   rw[this]; rfl
  ·have:(nk (kvD v x).1==some (enc bs))=false:=by
    simp only[kvD,Zjh]
    exact beq_eq_false_iff_ne.mpr fun z=>c (Zpd x bs (Wac.inj z))
   rw[this]
   rcases Xj.mp h with h | h
   ·exact absurd h.symm c
   ·exact Zqi r h
theorem Znj {v:List Bool->D} {bs:List Bool}:∀ done:List (List Bool),bs∉done->Zbk (done.map (kvD v)) (enc bs)=none
 | [],h=>rfl
 | x::r,h=>by
  unfold Zbk
  rw[Xl,Wcd]
  have c:x≠bs:=fun z=>h (by simp[z])
  have:(nk (kvD v x).1==some (enc bs))=false:=by
   simp only[kvD,Zjh]
   exact beq_eq_false_iff_ne.mpr fun z=>c (Zpd x bs (Wac.inj z))
  rw[this]
  exact Znj r fun z=>h (by simp[z])
theorem putV {v:List Bool->D} {bs:List Bool} {done:List (List Bool)} (hn:bs∉done):Zof (done.map (kvD v)) (Zaq bs) (enc bs) (v bs)=(done++[bs]).map (kvD v):=by
 unfold Zof; rw[Znj done hn]; simp[kvD]
theorem Ydm {v:List Bool->D} {d:D} {done:List (List Bool)} {p:Nat} {bs:List Bool} {Q:HD->Prop} (g:H[p]? = some (.dic (done.map (kvD v)) false)) (ed:d=v bs) (hn:bs∉done) (hl:done.length<=10000) (q:Q (H.set p (.dic ((done++[bs]).map (kvD v)) false))):wH (Znv (.ref p) (Zaq bs) d H) Q:=by
 subst ed
 have sz:(done.map (kvD v)).length<sizeLine:=by rw[Uz,Xo]; omega
 refine⟨_,?_,q⟩
 unfold Znv
 simp only[g,Zjh,Zb,if_pos sz,putV hn]
theorem Zwh {v:List Bool->D} {done:List (List Bool)} {p:Nat} {fz:Bool} {bs:List Bool} (g:H[p]? = some (.dic (done.map (kvD v)) fz)) (hm:bs∈done) (q:Q (v bs) H):wE (Zf6 (.ref p) (Zaq bs) H) Q:=Zyl g (Zjh bs) (Zqi done hm) q
theorem w_irb {σ:SD} {f:AF} {I:List D->Zgy->HD->Prop} (h:wA (f σ H) fun ds H1=>∃ i j c,ds=[.int i,.int j,.int c]/\Zku i j c/\I (Zgi i c (Zho i j)) [] H1):wI (iRB f σ H) I:=by
 obtain⟨ds,H1,e,i,j,c,rfl,s1,q⟩:=h
 exact⟨_,_,H1,by unfold iRB; rw[e]; exact if_pos s1,q⟩
nonrec def Zxq:Nat->List D
 | 0=>[]
 | m+1=>.int m::Zxq m
theorem Zur:∀ n:Nat,Zgi ((n:Int) - 1) (-1) n=Zxq n
 | 0=>rfl
 | n+1=>by
  have ih:=Zur n
  unfold Zgi at ih ⊢
  rw[Wei,Xl,Waw,Zxq,<- ih]
  congr 1
  ·congr 1; omega
  ·refine Wdq fun k _=>?_
   show D.int _=D.int _
   congr 1
   show (↑(n+1):Int) - 1+((k+1:Nat):Int) * -1=_
   omega
variable {σ:SD} {H:HD} {Q:D->HD->Prop}
def Zyn (ks:List D) (S:List Bool->Bool) (p:List Bool):Prop:=∀ k:Nat,k<p.length->Zd1 ks ((k:Int)+1)=true->p[k]? = some (S (p.take k))
theorem Zyn.nil {ks:List D} {S:List Bool->Bool}:Zyn ks S []:=fun k h=>absurd h (Wfv _)
theorem Zyn.snoc {ks:List D} {S:List Bool->Bool} {p:List Bool} {b:Bool} (h:Zyn ks S p) (hb:Zd1 ks ((p.length:Int)+1)=true->b=S p):Zyn ks S (p++[b]):=by
 intro k hk ho
 rw[Xq,Wbj] at hk
 by_cases e:k<p.length
 ·rw[Xh e,Wdk (by omega)]
  exact h k e ho
 ·have e:k=p.length:=by omega
  subst e
  rw[Wdr,Wgc,hb ho]
theorem Zzt {ks:List D} {n:Nat}:Zd1 ks ((n:Int)+1)=kS (ks.getD n .non):=by
 unfold Zd1
 rw[show Zan ((n:Int)+1)=(n:Int)+1 by unfold Zan; split<;>omega]
 congr 2
theorem Ztc {bs:List Bool} {l:Int} (h:1<=Zan l/\Zan l<=bs.length) (q:Q (.bl (rig bs l)) H):wE (Zdu [.int l,Zaq bs] H) Q:=by
 refine Za6 rfl ?_
 show wS (Zdr [some (.int l),some (.tup (bs.map .bl))] H) _
 unfold Zdr
 have li:(Zan l - 1).toNat<bs.length:=by omega
 fail "g"
 rw[show Zan l - 1=(((Zan l - 1).toNat:Nat):Int) by omega]
 refine w_ixT (Zyr (d:=.bl bs[(Zan l - 1).toNat]) (by simp[li])) ?_
 fail "g"
 refine Zws ?_
 have e:rig bs l=(bs[(Zan l - 1).toNat]==decide (0<l)):=by
  unfold rig
  rw[Xg li]
 fail "g"
 rw[e] at q
 exact q
theorem Zue {n:Nat} (hn:n<=8) (q:∀ p (pls:List (List Bool)) H',H'[p]? = some (.lst (pls.map Zaq))->(∀ bs∈pls,bs.length=n)->pls.length<=256->Fm [] H H'->Q (.ref p) H'):wE (Zcv [.int n] H) Q:=by
 refine Ziw hn fun p H' g x=>q p (lev n) H' g (Zez n) (Zhk hn) x.fm
nonrec def keeps (rss:List (List Int)) (bs:List Bool):Bool:=rss.all fun row=>row.any (rig bs)
section
variable {ks:List D} {rss:List (List Int)} {bs:List Bool}
theorem Zyw {row:List Int} {s:List D} {H:HD} {Q:List D->HD->Prop} (hr:R ks.length row) (hb:bs.length=ks.length) (q:Q ((row.filter (rig bs)).map .int) H) :
  wA (Zew [] [some (Zaq bs)] (Zfd (Zap 2 Zdu (Zab (Zac 0) (Zab (Zac 1) Zag)))) (Zac 0) (row.map .int) H) Q:=by
 refine Zb2 (fun d=>rig bs (Zl6 d)) (fun H'=>H'=H) (fun _ j=>Ze8) _ (fun y hy H3 j=>?_) _ rfl fun H3 j=>?_
 ·obtain⟨z,hz,rfl⟩:=Xn.mp hy
  subst j
  fail "g"
  refine Ztc (by rw[hb]; exact hr.rg z hz) ?_
  fail "g"
  exact⟨rfl,rfl⟩
 ·subst j
  have ef:(row.map D.int).filter (fun d=>rig bs (Zl6 d))=(row.filter (rig bs)).map .int:=by
   rw[Wbn]
   rfl
  rw[ef]
  exact q
theorem Zsv (h8:ks.length<=8) (hr:∀ ls∈rss,R ks.length ls) (hb:bs.length=ks.length) (q:∀ H',ExtS [] H H'->Q (.bl (!keeps rss bs)) H'):wE (Zcs [.tup (rss.map Zaz),Zaq bs] H) Q:=by
 refine Za6 rfl ?_
 show wS (Zes [some (.tup (rss.map Zaz)),some (Zaq bs),none] H) _
 unfold Zes
 fail "g"
 refine Zbo (fun d t σ H'=>∃ (pre rs:List (List Int)) (z2:Option D),rss=pre++rs/\t=rs.map Zaz/\keeps pre bs=true/\ExtS [] H H'/\σ=[some (.tup (rss.map Zaz)),some (Zaq bs),z2]) (fun _ _ _ _ _=>Ze8) (fun d x t σ H2 zz=>?_) (fun d σ H2 zz=>?_) _ [] _ _ ⟨[],rss,_,rfl,rfl,rfl,ExtS.refl,rfl⟩
 ·obtain⟨pre,rs,z2,i1,i2,i3,i4,i5⟩:=zz
  subst i5
  cases rs with
  | nil=>cases i2
  | cons row rs =>
   obtain⟨rfl,rfl⟩:=Wbe.inj i2
   have rr:=hr row (by rw[i1]; simp)
   have lr:=rr.len
   fail "i"
   refine⟨row.map .int,[],rfl,?_⟩
   refine Zyw (s:=[]) rr hb ?_
   refine⟨by have:=Wai (rig bs) row; simp at this ⊢; omega,?_⟩
   fail "g"
   refine Zin (Zbn (row.filter (rig bs))) (by omega) (appL last) last ?_
   have ee:((row.filter (rig bs)).map D.int).isEmpty = !row.any (rig bs):=by
    cases v:row.any (rig bs) with
    | true =>
     obtain⟨l,h1,h2⟩:=Wau.mp v
     cases w:row.filter (rig bs) with
     | nil=>exact absurd (Waa.mpr ⟨h1,h2⟩) (by rw[w]; simp)
     | cons a b=>rfl
    | false =>
     have:row.filter (rig bs)=[]:=Wci.mpr fun l hl=>Wco.mp v l hl
     rw[this]; rfl
   rw[ee]
   have X3:=(i4.trans (ExtS.app (S:=[]) [DO.lst ((row.filter (rig bs)).map D.int)])).trans (ExtS.app (S:=[]) [DO.lst []])
   fail "g"
   cases v:row.any (rig bs) with
   | false =>
    have e:keeps rss bs=false:=by
     unfold keeps
     rw[i1,Wfz,Wcn,v]
     simp
    have q:=q _ X3
    rw[e] at q
    fail "g"
    exact q
   | true =>
    fail "g"
    refine⟨pre++[row],rs,_,by rw[i1]; simp,rfl,?_,X3,rfl⟩
    unfold keeps at i3 ⊢
    rw[Wfz,i3,Wcn,v]
    rfl
 ·obtain⟨pre,rs,z2,i1,i2,i3,i4,i5⟩:=zz
  subst i5
  cases rs with
  | cons row rs=>cases i2
  | nil =>
   rw[Wab] at i1
   subst i1
   have q:=q H2 i4
   rw[i3] at q
   fail "g"
   exact q
theorem Zqh (h8:ks.length<=8) (hr:∀ ls∈rss,R ks.length ls) (hb:bs.length=ks.length) (q:∀ H',Fm [] H H'->Q (.bl (!keeps rss bs)) H'):wE (Zcs [.tup (rss.map Zaz),Zaq bs] H) Q:=by
 exact Zsv h8 hr hb fun H' x=>q H' x.fm
end
theorem Zy3 {b:Bool} (q:Q (.bl b) H):wE (eqD (Zbx b) (.str "some") H) Q:=by
 refine⟨_,_,Zpo b true H,?_⟩
 cases b<;>exact q
section
variable {ps:Nat} {ks:List D} {rss:List (List Int)} {ds:List D}
theorem Zxf (c:CR ks rss) (hu:∀ ls∈rss,Up ks.length 0 ls) (g:H[ps]? = some (.lst ds)) (hl:ds.length<=1000) (ok:mok ks rss [] ds=true) (hlast:(mad ks rss [] ds).getLast? = some []) (q:∀ H',Fm [] H H'->Q (.bl true) H'):wE (Zfx [Zal ks rss,.ref ps] H) Q:=by
 let S:List Bool->Bool:=fun bs=>Zny (mad ks rss [] ds) bs (ds.zip (mad ks rss [] ds))
 have h8:=c.h8
 refine Za6 rfl ?_
 show wS (Zc9 [some (Zal ks rss),some (.ref ps),none,none,none,none,none] H) _
 unfold Zc9
 fail "g"
 refine Zbo (fun d t σ H'=>∃ (pls:List (List Bool)) (p:Nat) (z3 z4 z5 z6:Option D),d++t=ks/\(∀ bs∈pls,bs.length=d.length/\Zyn ks S bs)/\pls.length<=2 ^ d.length/\H'[p]? = some (.lst (pls.map Zaq))/\Fm [] H H'/\σ=[some (Zal ks rss),some (.ref ps),some (.ref p),z3,z4,z5,z6]) (fun _ _ _ _ _=>Ze8) (fun d x t σ H1 zz=>?_) (fun d σ H1 zz=>?_) _ [] _ _ ⟨[[]],H.length,_,_,_,_,rfl,by simp[Zyn.nil],by simp,last,Fm.app _,rfl⟩
 ·obtain⟨pls,p,z3,z4,z5,z6,i1,i2,i3,i4,i5,i6⟩:=zz
  subst i6
  have ld:d.length<=7:=by have:=congrArg Wbo i1; simp at this; omega
  have lp:pls.length<=128:=Wag i3 (Wag (Wbz (by omega) ld) (by decide))
  have ex:ks.getD d.length .non=x:=by rw[<- i1]; simp
  have kx:x=Zbx (kS x):=Zix (c.hk x (by rw[<- i1]; simp))
  have ow:=Zzt (ks:=ks) (n:=d.length)
  rw[ex] at ow
  fail "g"
  refine Zbo (fun d' t' σ H'=>∃ (pre r acc:List (List Bool)) (p4:Nat) (z5 z6:Option D),pls=pre++r/\t'=r.map Zaq/\(∀ bs∈acc,bs.length=d.length+1/\Zyn ks S bs)/\acc.length<=2*pre.length/\H1.length<=p4/\H'[p4]? = some (.lst (acc.map Zaq))/\Fm [] H1 H'/\σ=[some (Zal ks rss),some (.ref ps),some (.ref p),some x,some (.ref p4),z5,z6]) (by rintro d' t' σ H' ⟨pre,r,acc,p4,z5,z6,k1,k2,k3,k4,k8,k5,k6,k7⟩; exact Zot (k6.lst (by simp) i4)) (fun d' y t' σ H2 zz=>?_) (fun d' σ H2 zz=>?_) _ [] _ _ ⟨[],pls,[],H1.length,_,_,rfl,rfl,by simp,Wbm _,Xd _,last,Fm.app _,rfl⟩
  ·obtain⟨pre,r,acc,p4,z5,z6,k1,k2,k3,k4,k8,k5,k6,k7⟩:=zz
   subst k7
   cases r with
   | nil=>cases k2
   | cons bs r =>
    obtain⟨rfl,rfl⟩:=Wbe.inj k2
    obtain⟨lb,fb⟩:=i2 bs (by rw[k1]; simp)
    have lpr:pre.length+1<=128:=by rw[k1] at lp; simp at lp; omega
    have gs:=(i5.trans k6).lst (by simp) g
    fail "i"
    rw[kx]
    refine Zy3 ?_
    cases hk:kS x with
    | true =>
     rw[hk] at ow
     fail "g"
     refine Zu9 c gs hl (by omega) ok fun H3 x3=>?_
     fail "i"
     have g4:=x3.lst (by simp) k5
     refine⟨isl g4,?_⟩
     fail "g"
     refine Ze3 g4 (by simp; omega) ?_
     fail "g"
     refine⟨pre++[bs],r,acc++[bs++[S bs]],p4,_,_,by rw[k1]; simp,rfl,fun b hb=>?_,by simp; omega,k8,by rw[Zhu g4]; simp[S,Zaq],(k6.trans x3).new (Fm.set (S:=[p4]) (by simp)) (fun q hq _=>by simp at hq; subst hq; exact k8),rfl⟩
     rcases Xm.mp hb with z | z
     ·exact k3 b z
     ·simp at z
      subst z
      exact⟨by simp[lb],fb.snoc fun _=>rfl⟩
    | false =>
     rw[hk] at ow
     fail "g"
     refine Zuq (appL k5) last (by simp; omega) ?_
     fail "g"
     refine⟨pre++[bs],r,acc++[bs++[false],bs++[true]],_,_,_,by rw[k1]; simp,rfl,fun b hb=>?_,by simp; omega,?_,by rw[Waj]; exact last,(k6.trans (Fm.app _)).trans (Fm.app _),rfl⟩
     ·have n:∀ b:Bool,Zd1 ks ((bs.length:Int)+1)=true->b=S bs:=fun b z=>by rw[lb,ow] at z; cases z
      rcases Xm.mp hb with z | z
      ·exact k3 b z
      ·simp at z
       rcases z with rfl | rfl<;>exact⟨by simp[lb],fb.snoc (n _)⟩
     ·have:=k6.len; simp; omega
  ·obtain⟨pre,r,acc,p4,z5,z6,k1,k2,k3,k4,k8,k5,k6,k7⟩:=zz
   subst k7
   cases r with
   | cons bs r=>cases k2
   | nil =>
    rw[Wab] at k1
    subst k1
    fail "g"
    refine⟨acc,p4,_,_,_,_,by rw[<- i1]; simp,by simpa using k3,?_,k5,i5.trans k6,rfl⟩
    rw[Xq,Wbj,Wet]
    omega
 ·obtain⟨pls,p,z3,z4,z5,z6,i1,i2,i3,i4,i5,i6⟩:=zz
  subst i6
  rw[Wab] at i1
  subst i1
  have lp:pls.length<=256:=Wag i3 (Wag (Wbz (by omega) h8) (by decide))
  fail "g"
  refine Zb2 (fun _=>false) (fun H'=>Fm [] H1 H') (fun H' j=>Zot (j.lst (by simp) i4)) _ (fun y hy H3 j=>?_) _ Fm.refl fun H3 j=>?_
  ·obtain⟨bs,hb,rfl⟩:=Xn.mp hy
   obtain⟨lb,fb⟩:=i2 bs hb
   have e:keeps rss bs=true:=by
    refine Xs.mpr fun row hr=>?_
    obtain⟨l,h1,h2⟩:=strat (p:=bs) ok hlast lb fb row hr
    exact Wau.mpr ⟨l,h1,h2⟩
   fail "g"
   refine Zqh c.h8 c.hr lb fun H4 x4=>?_
   rw[e]
   fail "g"
   refine Zx6 (.bl false) (by omega) ?_
   exact⟨_,rfl,rfl,j.trans x4⟩
  ·have e:(pls.map Zaq).filter (fun _=>false)=[]:=by rw[Wci]; simp
   rw[e]
   refine⟨by simp,?_⟩
   fail "g"
   refine Zin .nil (by omega:0<30) (appL last) last ?_
   fail "g"
   exact q _ (((i5.trans j).trans (Fm.app _)).trans (Fm.app _))
end
nonrec def dZ:Int ⊕ List Int->D
 | .inl i=>.int i
 | .inr ls=>Zaz ls
nonrec def pZ:Int ⊕ List Int->Vz
 | .inl i=>.int i
 | .inr ls=>.tuple (ls.map .int)
nonrec def sD (s:Str) (zs:List (Int ⊕ List Int)):D:=.tup (.str s::zs.map dZ)
section
variable {ks:List D} {rss made xs pre:List (List Int)} {d:D} {x:List Int}
theorem Zpj {l:List (List Int)} {i:Nat} (h:i<l.length):l.getD i []=l[i]:=by
 rw[Xx,Xg h]; rfl
theorem St.stp (h:St ks rss made d x):stp ks rss made d=some x:=by
 cases h with
 | less i h =>
  unfold K08.stp
  dsimp only
  rw[if_pos rfl,if_pos ⟨by omega,by omega⟩,Waf,Zpj h]
 | row ls u h =>
  unfold K08.stp
  dsimp only
  rw[if_neg (by decide),if_pos rfl,Zuo u h]
 | joined i j n x hi hj hn ho e =>
  unfold K08.stp
  dsimp only
  rw[if_pos ⟨rfl,⟨by omega,by omega⟩,⟨by omega,by omega⟩,hn,ho⟩,Waf,Waf,Zpj hi,Zpj hj,e]
theorem St.shape (h:St ks rss made d x):∃ s zs,Tan s=true/\zs.length<=3/\d=sD s zs:=by
 cases h with
 | less i h=>exact⟨_,[.inl (i:Int)],Zf4 (by decide),by simp,rfl⟩
 | row ls u h=>exact⟨_,[.inr x],Zf4 (by decide),by simp,rfl⟩
 | joined i j n x hi hj hn ho e=>exact⟨_,[.inl (i:Int),.inl (j:Int),.inl n],Zf4 (by decide),by simp,rfl⟩
nonrec def mv (m:Nat) (d:D):D:=match d with
 | .tup [.str s,.int i]=>if s = "less" then .tup [.str s,.int (i+m)] else d
 | .tup [.str s,.int i,.int j,.int n]=>.tup [.str s,.int (i+m),.int (j+m),.int n]
 | d=>d
theorem St.mv (h:St ks rss made d x):St ks rss (pre++made) (mv pre.length d) x:=by
 have g:∀ {i:Nat} (hi:i<made.length),∃ h':i+pre.length<(pre++made).length,(pre++made)[i+pre.length]=made[i]:=fun {i} hi=>⟨by simp; omega,by rw[List.getElem_append_right (by omega)]; simp⟩
 cases h with
 | less i h =>
  obtain⟨h1,e1⟩:=g h
  rw[<- e1]
  unfold K08.mv
  dsimp only
  rw[if_pos rfl]
  exact .less (i+pre.length) h1
 | row ls u h=>exact .row x u h
 | joined i j n x hi hj hn ho e =>
  obtain⟨h1,e1⟩:=g hi
  obtain⟨h2,e2⟩:=g hj
  exact .joined (i+pre.length) (j+pre.length) n x h1 h2 hn ho (by rw[e1,e2]; exact e)
theorem Zy2:∀ (ds:List D) (made:List (List Int)),mok ks rss made ds=true->mok ks rss (pre++made) (ds.map (mv pre.length))=true/\mad ks rss (pre++made) (ds.map (mv pre.length))=pre++mad ks rss made ds
 | [],made,_=>⟨rfl,rfl⟩
 | d::r,made,h=>by
  unfold mok at h
  cases e:stp ks rss made d with
  | none=>rw[e] at h; cases h
  | some x =>
   rw[e] at h
   have e2:=(St.of e).mv (pre:=pre).stp
   obtain⟨h1,h2⟩:=Zy2 r (made++[x]) h
   rw[<- Wae] at h1 h2
   refine⟨?_,?_⟩
   ·simp only[Xl,mok,e2]; exact h1
   ·simp only[Xl,mad,e2,e]; exact h2
theorem Zr7 {a b:List D} (ha:mok ks rss [] a=true) (hb:mok ks rss [] b=true):mok ks rss [] (a++b.map (mv a.length))=true/\mad ks rss [] (a++b.map (mv a.length))=mad ks rss [] a++mad ks rss [] b:=by
 have la:=Zkd ks rss a [] ha
 rw[Wbu,Wep] at la
 obtain⟨h1,h2⟩:=Zy2 (pre:=mad ks rss [] a) b [] hb
 rw[la,Wab] at h1 h2
 rw[Zis,Zlc _ _ _ _ _ ha,ha,h1,h2]
 exact⟨rfl,rfl⟩
theorem Zs9:∀ (ds:List D) (made:List (List Int)),mok ks rss made ds=true->∀ d∈ds,∃ m x,St ks rss m d x
 | [],_,_,d,h=>by cases h
 | d::r,made,h,y,hy=>by
  unfold mok at h
  cases e:stp ks rss made d with
  | none=>rw[e] at h; cases h
  | some x =>
   rw[e] at h
   rcases Xj.mp hy with rfl | z
   ·exact⟨made,x,St.of e⟩
   ·exact Zs9 r _ h y z
end
theorem Zoq:∀ zs:List (Int ⊕ List Int),Fines (zs.map dZ) (zs.map pZ) 1
 | []=>.nil
 | .inl i::r=>.cons ((Fine.int i).le (by omega)) (Zoq r)
 | .inr ls::r=>.cons (Fine.tup (Zbn ls)) (Zoq r)
theorem Ybi {s:Str} {zs:List (Int ⊕ List Int)} (h:Tan s=true):Fine (sD s zs) (.tuple (.str s::zs.map pZ)) 2:=Fine.tup (Fines.cons ((Fine.str h).le (by omega)) (Zoq zs))
def Shs' (ds:List D):Prop:=∀ d∈ds,∃ s zs,Tan s=true/\zs.length<=3/\d=sD s zs
theorem Shs'.fines {ds:List D} (h:Shs' ds):∃ xs,Fines ds xs 2:=Fines.of _ fun d hd=>by
 obtain⟨s,zs,hs,_,rfl⟩:=h d hd
 exact⟨_,Ybi hs⟩
variable {σ:SD} {H:HD} {Q:D->HD->Prop}
theorem Zy1 {p:Nat} {xs:List D} {r n:Int} (g:H[p]? = some (.lst xs)) (hn:n=xs.length) (h0:0<n) (q:∀ d∈xs,Q d H):wE (ixD (.ref p) (.int (r % n)) H) Q:=by
 have m0:=Wbf r (show n≠0 by omega)
 have m1:=Was r h0
 obtain⟨i,hi⟩:∃ i:Nat,r % n=i:=⟨(r % n).toNat,by omega⟩
 rw[hi] at m1 ⊢
 have li:i<xs.length:=by omega
 exact w_ixR g (Zcj (Xg li)) (q _ (Xy li))
theorem Yds {x:Int} {p:Nat} {ls:List Int} (g:H[p]? = some (.lst (ls.map .int))) (q:Q (.bl (decide (x∈ls))) H):wE (inD (.int x) (.ref p) H) Q:=Yee (.int x) (Zbn ls) (by omega) (by omega) g (by rw[Zl0]; exact q)
structure Rt (bs:List Bool) (fs:List Int):Prop where
 nd:fs.Nodup
 rt:∀ x∈fs,rig bs x=true/\1<=Zan x/\Zan x<=bs.length
theorem Rt.nil {bs:List Bool}:Rt bs []:=⟨.nil,by simp⟩
theorem Rt.snoc {bs:List Bool} {fs:List Int} {l:Int} (h:Rt bs fs) (hn:l∉fs) (hr:rig bs l=true/\1<=Zan l/\Zan l<=bs.length):Rt bs (fs++[l]):=by
 refine⟨?_,fun x hx=>?_⟩
 ·rw[Waq]
  refine⟨h.nd,by simp,fun a ha b hb e=>?_⟩
  simp at hb
  subst hb e
  exact hn ha
 ·rcases Xm.mp hx with z | z
  ·exact h.rt x z
  ·simp at z; subst z; exact hr
theorem Ya0 {bs:List Bool} {x y:Int} (hx:rig bs x=true) (hy:rig bs y=true) (px:1<=Zan x) (e:Zan x=Zan y):x=y:=by
 unfold rig at hx hy
 rw[e] at hx
 cases g:bs[(Zan y - 1).toNat]? with
 | none=>rw[g] at hx; cases hx
 | some b =>
  rw[g] at hx hy
  have h1:b=decide (0<x):=eq_of_beq hx
  have h2:b=decide (0<y):=eq_of_beq hy
  rw[h1] at h2
  have h3:(0<x) ↔ (0<y):=by
   constructor
   ·intro z; rw[decide_eq_true z] at h2; exact of_decide_eq_true h2.symm
   ·intro z; rw[decide_eq_true z] at h2; exact of_decide_eq_true h2
  rcases Zk8 e with z | z
  ·exact z
  ·unfold Zan at px e
   split at px<;>omega
theorem Zzo {bs:List Bool}:∀ fs:List Int,fs.Nodup->(∀ x∈fs,rig bs x=true/\1<=Zan x/\Zan x<=bs.length)->(fs.map Zan).Nodup
 | [],_,_=>.nil
 | x::r,nd,h=>by
  rw[Xl,Wav]
  rw[Wav] at nd
  refine⟨fun z=>?_,Zzo r nd.2 fun y hy=>h y (by simp[hy])⟩
  obtain⟨y,hy,e⟩:=Xn.mp z
  have:=Ya0 (h y (by simp[hy])).1 (h x (by simp)).1 (h y (by simp[hy])).2.1 e
  subst this
  exact nd.1 hy
theorem Rt.r {bs:List Bool} {fs:List Int} (h:Rt bs fs):R bs.length fs:=⟨Zzo fs h.nd h.rt,fun x hx=>(h.rt x hx).2⟩
section
variable {ks:List D} {rss:List (List Int)} {bs:List Bool} {ds:List Int} {pd:Nat}
theorem Zww (h8:ks.length<=8) (hr:∀ ls∈rss,R ks.length ls) (hb:bs.length=ks.length) (hkp:keeps rss bs=true) (gd:H[pd]? = some (.lst (ds.map .int))) (hd:Zwx ds) (h3:3<=ds.length)
  (q:∀ ls H',Fm [] H H'->Up ks.length 0 ls->(∀ row∈rss,∃ l∈row,l∈ls)->Q (Zaz ls) H'):wE (Zhl [Zal ks rss,Zaq bs,.ref pd] H) Q:=by
 refine Za6 rfl ?_
 show wS (Zel [some (Zal ks rss),some (Zaq bs),some (.ref pd),none,none,none,none,none,none] H) _
 unfold Zel
 fail "g"
 refine Zbo (fun d t σ H'=>∃ (pre rs:List (List Int)) (fs:List Int) (z4 z5:Option D),rss=pre++rs/\t=rs.map Zaz/\Rt bs fs/\(∀ row∈pre,∃ l∈row,l∈fs)/\H'[H.length]? = some (.lst (fs.map .int))/\Fm [] H H'/\σ=[some (Zal ks rss),some (Zaq bs),some (.ref pd),some (.ref H.length),z4,z5,none,none,none]) (fun _ _ _ _ _=>Ze8) (fun d x t σ H2 zz=>?_) (fun d σ H2 zz=>?_) _ [] _ _ ⟨[],rss,[],_,_,rfl,rfl,Rt.nil,by simp,last,Fm.app _,rfl⟩
 ·obtain⟨pre,rs,fs,z4,z5,i1,i2,i3,i4,i5,i6,i7⟩:=zz
  subst i7
  cases rs with
  | nil=>cases i2
  | cons row rs =>
   obtain⟨rfl,rfl⟩:=Wbe.inj i2
   have rr:=hr row (by rw[i1]; simp)
   have lr:=rr.len
   have lf:=i3.r.len
   fail "g"
   refine⟨row.map .int,[],rfl,?_⟩
   refine Zyw (s:=[]) rr hb ?_
   have lh:=Wai (rig bs) row
   refine⟨by simp; omega,?_⟩
   have hne:0<(row.filter (rig bs)).length:=by
    unfold keeps at hkp
    obtain⟨l,h1,h2⟩:=Wau.mp (Xs.mp hkp row (by rw[i1]; simp))
    exact List.length_pos_of_mem (Waa.mpr ⟨h1,h2⟩)
   have hin:∀ l∈row.filter (rig bs),l∈row/\rig bs l=true/\1<=Zan l/\Zan l<=bs.length:=fun l hl=>by
    obtain⟨h1,h2⟩:=Waa.mp hl
    have:=rr.rg l h1
    exact⟨h1,h2,by omega,by omega⟩
   generalize row.filter (rig bs)=he at lh hne hin
   fail "i"
   refine Zb2 (fun d=>decide (Zl6 d∈fs)) (fun H'=>H'=H2++[.lst (he.map .int)]) (fun _ j=>by rw[j]; exact Zot last) _ (fun y hy H3 j=>?_) _ rfl fun H3 j=>?_
   ·obtain⟨z,hz,rfl⟩:=Xn.mp hy
    subst j
    fail "g"
    refine Yds (appL i5) ?_
    exact⟨_,rfl,rfl,rfl⟩
   subst j
   have ef:(he.map D.int).filter (fun d=>decide (Zl6 d∈fs))=(he.filter fun l=>decide (l∈fs)).map .int:=by
    rw[Wbn]
    rfl
   rw[ef]
   refine⟨by have:=Wai (fun l=>decide (l∈fs)) he; simp at this ⊢; omega,?_⟩
   fail "g"
   refine Zin (Zbn (he.filter fun l=>decide (l∈fs))) (by omega) (appL last) last ?_
   have X3:=((i6.trans (Fm.app (S:=[]) [DO.lst (he.map .int)])).trans (Fm.app (S:=[]) [DO.lst ((he.filter fun l=>decide (l∈fs)).map D.int)])).trans (Fm.app (S:=[]) [DO.lst []])
   fail "g"
   cases v:(he.filter fun l=>decide (l∈fs)) with
   | nil =>
    rw[v] at X3
    fail "g"
    refine⟨isl (appL (appL (appL i5))),?_⟩
    fail "g"
    refine Zdg (X3.lst (by simp) gd) hd (by omega) (by omega) fun u u0 u1=>?_
    fail "g"
    rw[Xo]
    refine w_mod (by omega) ?_
    refine Zy1 (appL (appL last)) (by simp) (by omega) fun e he2=>?_
    obtain⟨l,hl,rfl⟩:=Xn.mp he2
    obtain⟨h1,h2,h3',h4⟩:=hin l hl
    fail "g"
    refine Ze3 (appL (appL (appL i5))) (by simp; omega) ?_
    fail "g"
    have ln:l∉fs:=fun z=>by
     have:l∈he.filter fun l=>decide (l∈fs):=Waa.mpr ⟨hl,decide_eq_true z⟩
     rw[v] at this
     cases this
    refine⟨pre++[row],rs,fs++[l],_,_,by rw[i1]; simp,rfl,i3.snoc ln ⟨h2,h3',h4⟩,fun r hr2=>?_,by rw[Zhu (appL (appL (appL i5)))]; simp,X3.new (Fm.set (S:=[H.length]) (by simp)) (fun q hq _=>by simp at hq; subst hq; exact Xd _),rfl⟩
    rcases Xm.mp hr2 with z | z
    ·obtain⟨y,y1,y2⟩:=i4 r z
     exact⟨y,y1,Wak _ y2⟩
    ·simp at z; subst z; exact⟨l,h1,by simp⟩
   | cons l0 r0 =>
    rw[v] at X3
    fail "g"
    refine⟨pre++[row],rs,fs,_,_,by rw[i1]; simp,rfl,i3,fun r hr2=>?_,appL (appL (appL i5)),X3,rfl⟩
    rcases Xm.mp hr2 with z | z
    ·exact i4 r z
    ·simp at z; subst z
     have:l0∈he.filter fun l=>decide (l∈fs):=by rw[v]; simp
     obtain⟨y1,y2⟩:=Waa.mp this
     exact⟨l0,(hin l0 y1).1,of_decide_eq_true y2⟩
 obtain⟨pre,rs,fs,z4,z5,i1,i2,i3,i4,i5,i6,i7⟩:=zz
 subst i7
 cases rs with
 | cons row rs=>cases i2
 | nil =>
  rw[Wab] at i1
  subst i1
  fail "g"
  refine⟨_,rfl,?_⟩
  refine Zbo (fun d t σ H'=>∃ (pre r:List Bool) (fs:List Int) (z6 z7 z8:Option D),bs=pre++r/\t=Zck (pre.length:Int) (r.map .bl)/\Rt bs fs/\(∀ row∈rss,∃ l∈row,l∈fs)/\H'[H.length]? = some (.lst (fs.map .int))/\Fm [] H H'/\σ=[some (Zal ks rss),some (Zaq bs),some (.ref pd),some (.ref H.length),z4,z5,z6,z7,z8]) (fun _ _ _ _ _=>Ze8) (fun d x t σ H3 zz=>?_) (fun d σ H3 zz=>?_) _ [] _ _ ⟨[],bs,fs,_,_,_,rfl,rfl,i3,i4,i5,i6,rfl⟩
  ·obtain⟨pre,r,fs,z6,z7,z8,k1,k2,k3,k4,k5,k6,k7⟩:=zz
   subst k7
   cases r with
   | nil=>cases k2
   | cons b r =>
    rw[Xl,Zhd] at k2
    obtain⟨rfl,rfl⟩:=Wbe.inj k2
    have lf:=k3.r.len
    have lp:pre.length<bs.length:=by rw[k1]; simp
    have hbk:bs[pre.length]? = some b:=by rw[k1]; simp
    have tl:Zck ((pre.length+1:Nat):Int) (r.map .bl)=Zck (((pre++[b]).length:Nat):Int) (r.map .bl):=by simp
    obtain⟨l,hl,hat,hrg⟩:∃ l:Int,Zan l=(pre.length:Int)+1/\atI [D.int (0 - (pre.length:Int) - 1),.int ((pre.length:Int)+1)] (if b then 1 else 0)=some (.int l)/\rig bs l=true:=by
     cases b with
     | false =>
      refine⟨0 - (pre.length:Int) - 1,by unfold Zan; split<;>omega,rfl,?_⟩
      unfold rig
      rw[show (Zan (0 - (pre.length:Int) - 1) - 1).toNat=pre.length by unfold Zan; split<;>omega,hbk]
      show (false==decide (0<0 - (pre.length:Int) - 1))=true
      rw[decide_eq_false (by omega)]; rfl
     | true =>
      refine⟨(pre.length:Int)+1,by unfold Zan; split<;>omega,rfl,?_⟩
      unfold rig
      rw[show (Zan ((pre.length:Int)+1) - 1).toNat=pre.length by unfold Zan; split<;>omega,hbk]
      show (true==decide (0<(pre.length:Int)+1))=true
      rw[decide_eq_true (by omega)]; rfl
    fail "g"
    refine w_ixR last hat ?_
    have X4:=k6.trans (Fm.app (S:=[]) [DO.lst [D.int (0 - (pre.length:Int) - 1),.int ((pre.length:Int)+1)]])
    fail "i"
    refine Zdg (X4.lst (by simp) gd) hd (by omega) (by omega) fun u u0 u1=>?_
    fail "g"
    refine w_fdiv (by omega) (by omega) ?_
    fail "g"
    have keep:∀ (z8:Option D),∃ (pre' r':List Bool) (fs':List Int) (y6 y7 y8:Option D),bs=pre'++r'/\Zck ((pre.length+1:Nat):Int) (r.map .bl)=Zck (pre'.length:Int) (r'.map .bl)/\Rt bs fs'/\(∀ row∈rss,∃ l∈row,l∈fs')/\(H3++[DO.lst [D.int (0 - (pre.length:Int) - 1),.int ((pre.length:Int)+1)]])[H.length]? = some (.lst (fs'.map .int))/\Fm [] H (H3++[DO.lst [D.int (0 - (pre.length:Int) - 1),.int ((pre.length:Int)+1)]])/\[some (Zal ks rss),some (Zaq bs),some (.ref pd),some (.ref H.length),z4,z5,some (.int (pre.length:Int)),some (.bl b),z8]=[some (Zal ks rss),some (Zaq bs),some (.ref pd),some (.ref H.length),z4,z5,y6,y7,y8]:=fun z8=>⟨pre++[b],r,fs,_,_,_,by rw[k1]; simp,tl,k3,k4,appL k5,X4,rfl⟩
    refine⟨fun v=>?_,fun v=>?_⟩
    ·fail "g"
     refine Zyy (appL k5) ?_
     fail "g"
     cases w:decide (l∈fs) with
     | true=>fail "g"; exact keep _
     | false =>
      have ln:=of_decide_eq_false w
      fail "g"
      refine⟨isl (appL k5),?_⟩
      fail "g"
      refine Ze3 (appL k5) (by simp; omega) ?_
      fail "g"
      refine⟨pre++[b],r,fs++[l],_,_,_,by rw[k1]; simp,tl,k3.snoc ln ⟨hrg,by omega,by omega⟩,fun row h=>?_,by rw[Zhu (appL k5)]; simp,X4.new (Fm.set (S:=[H.length]) (by simp)) (fun q hq _=>by simp at hq; subst hq; exact Xd _),rfl⟩
      obtain⟨y,y1,y2⟩:=k4 row h
      exact⟨y,y1,Wak _ y2⟩
    ·fail "g"
     exact keep _
  ·obtain⟨pre,r,fs,z6,z7,z8,k1,k2,k3,k4,k5,k6,k7⟩:=zz
   subst k7
   cases r with
   | cons b r=>rw[Xl,Zhd] at k2; cases k2
   | nil =>
    have rf:=k3.r
    have lf:=rf.len
    fail "g"
    refine Zvb k5 (by omega) rf.nd ?_
    fail "g"
    rw[hb] at rf
    refine q (Zda fs) _ (k6.trans (Fm.app _)) (Zil rf) fun row h=>?_
    obtain⟨l,h1,h2⟩:=k4 row h
    exact⟨l,h1,(Zbv fs).mem_iff.mpr h2⟩
end
variable {σ:SD} {H:HD} {Q:D->HD->Prop}
theorem Yal {ps many:Nat} {ks:List D} {rss:List (List Int)} {ds:List D} (g:H[ps]? = some (.lst ds)) (hd:∀ d∈ds,∃ m x,St ks rss m d x) (hl:ds.length<=1000) (q:∀ p H',H'[p]? = some (.lst (ds.map (mv many)))->Fm [] H H'->Q (.ref p) H'):wE (Zfu [.ref ps,.int many] H) Q:=by
 refine Za6 rfl ?_
 show wS (Zdc [some (.ref ps),some (.int many),none,none] H) _
 unfold Zdc
 have np:H.length≠ps:=by have:=(Xc.mp g).1; omega
 fail "g"
 refine Zbo (fun d t σ H'=>∃ z3,d++t=ds/\H'[ps]? = some (.lst ds)/\H'[H.length]? = some (.lst (d.map (mv many)))/\Fm [] H H'/\σ=[some (.ref ps),some (.int many),some (.ref H.length),z3]) (by rintro _ _ _ _ ⟨_,_,j,_⟩; exact Zot j) (fun d x t σ H1 zz=>?_) (fun d σ H1 zz=>?_) _ [] _ _ ⟨none,rfl,appL g,last,Fm.app _,rfl⟩
 ·obtain⟨z3,i1,i2,i3,i4,i5⟩:=zz
  subst i5
  have ld:d.length<1000:=by rw[<- i1] at hl; simp at hl; omega
  have e1:(d++[x])++t=ds:=by rw[<- i1]; simp
  have lst:∀ y,y=mv many x->∃ z3,(d++[x])++t=ds/\(H1.set H.length (.lst (d.map (mv many)++[y])))[ps]? = some (.lst ds)/\(H1.set H.length (.lst (d.map (mv many)++[y])))[H.length]? = some (.lst ((d++[x]).map (mv many)))/\Fm [] H (H1.set H.length (.lst (d.map (mv many)++[y])))/\[some (D.ref ps),some (.int many),some (.ref H.length),some x]=[some (.ref ps),some (.int many),some (.ref H.length),z3]:=fun y hy=>by
   subst hy
   exact⟨_,e1,Zrc np i2,by rw[Zhu i3]; simp,i4.new (Fm.set (S:=[H.length]) (by simp)) (fun q hq _=>by simp at hq; omega),rfl⟩
  obtain⟨m,y,s⟩:=hd x (by rw[<- i1]; simp)
  cases s with
  | less i h =>
   fail "i"
   refine⟨isl i3,?_⟩
   fail "g"
   refine Ze3 i3 (by simp; omega) ?_
   fail "g"
   exact lst _ (by unfold mv; dsimp only; rw[if_pos rfl])
  | row ls u h =>
   fail "i"
   (refine WP.w_if ?_; fail "g")
   refine⟨isl i3,?_⟩
   fail "g"
   refine Ze3 i3 (by simp; omega) ?_
   fail "g"
   exact lst _ rfl
  | joined i j n x hi hj hn ho e =>
   fail "i"
   (refine WP.w_if ?_; fail "g")
   refine⟨isl i3,?_⟩
   fail "g"
   refine Ze3 i3 (by simp; omega) ?_
   fail "g"
   exact lst _ rfl
 ·obtain⟨z3,i1,i2,i3,i4,i5⟩:=zz
  subst i5
  rw[Wab] at i1
  subst i1
  fail "g"
  exact q _ _ i3 i4
theorem Zq1 {p r:Nat} {made:List (List Int)} (g1:H[p]? = some (.lst (made.map Zaz))) (g2:H[r]? = some (.lst [])) (q:Q (.bl (!made.isEmpty)) H):wE (neD (.ref p) (.ref r) H) Q:=by
 obtain⟨xs,f⟩:=Zrw made
 exact Zs4 f (by omega) g1 g2 (by cases made<;>exact q)
theorem Zzj {r:Option (FD×SD×HD)} {k:SD->HD->Prop} {R:FD->SD->HD->Prop} (J:SD->HD->Prop) (h:wS r (Yb5 J R)) (q:∀ σ H,J σ H->k σ H):wS r (Yb5 k R):=by
 obtain⟨x,s,H,e,j⟩:=h
 refine⟨x,s,H,e,?_⟩
 cases x with
 | nx=>exact q s H j
 | bk=>exact j
 | ct=>exact j
 | rt d=>exact j
theorem Zss (bs:List Bool):Fines (bs.map D.bl) (bs.map Tco) 0:=by
 induction bs with
 | nil=>exact .nil
 | cons b r ih=>exact .cons (.bl b) ih
theorem Zo3 (pls:List (List Bool)):∃ xs,Fines (pls.map Zaq) xs 1:=Fines.of _ fun d hd=>by
 obtain⟨bs,_,rfl⟩:=Xn.mp hd
 exact⟨_,Fine.tup (Zss bs)⟩
section
variable {pm pk pd:Nat} {ks:List D} {rss made:List (List Int)} {ds:List Int} {pls:List (List Bool)}
theorem Yat (c:CR ks rss) (hm:∀ ls∈made,R ks.length ls) (hl:made.length<=100) (gm:H[pm]? = some (.lst (made.map Zaz))) (gp:H[pk]? = some (.lst (pls.map Zaq))) (hp:∀ bs∈pls,bs.length=ks.length/\keeps rss bs=true) (lp:pls.length<=256) (gd:H[pd]? = some (.lst (ds.map .int))) (hd:Zwx ds) (h4:8<=ds.length)
  (q0:∀ H',Fm [] H H'->Q .non H') (q:∀ d x H',Fm [] H H'->St ks rss made d x->Q d H'):wE (Zdf [Zal ks rss,.str "some",.ref pm,.ref pk,.ref pd] H) Q:=by
 refine Za6 rfl ?_
 show wS (Zbs [some (Zal ks rss),some (.str "some"),some (.ref pm),some (.ref pk),some (.ref pd),none,none,none,none,none] H) _
 unfold Zbs
 refine w_seq (Zzj (fun σ' H'=>Fm [] H H'/\σ'=[some (Zal ks rss),some (.str "some"),some (.ref pm),some (.ref pk),some (.ref pd),none,none,none,none,none]) ?_ ?_)
 ·(refine WP.w_if ?_; fail "g")
  refine Zdg gd hd (by omega) (by omega) fun u u0 u1=>?_
  fail "g"
  refine⟨fun v=>?_,fun v=>?_⟩
  ·fail "g"
   refine Zq1 (appL gm) last ?_
   have X1:Fm [] H (H++[.lst []]):=Fm.app _
   fail "g"
   cases em:made.isEmpty with
   | true=>fail "g"; exact⟨X1,rfl⟩
   | false =>
    have lm:0<made.length:=by cases made with | nil=>cases em | cons a b=>simp
    fail "g"
    refine Zdg (appL gd) hd (by omega) (by omega) fun u2 u20 u21=>?_
    fail "g"
    rw[Xo]
    refine w_mod (by omega) ?_
    fail "g"
    have m0:=Wbf u2 (show (made.length:Int)≠0 by omega)
    have m1:=Was u2 (show 0<(made.length:Int) by omega)
    obtain⟨i,hi⟩:∃ i:Nat,u2 % (made.length:Int)=i:=⟨(u2 % (made.length:Int)).toNat,by omega⟩
    rw[hi] at m1 ⊢
    exact q _ _ _ X1 (.less i (by omega))
  ·fail "g"
   exact⟨Fm.refl,rfl⟩
 rintro _ H' ⟨x,rfl⟩
 refine w_seq (Zzj (fun σ' H'=>Fm [] H H'/\∃ z3 z4 z5 z6 z7,σ'=[some (Zal ks rss),some (.str "some"),some (.ref pm),some (.ref pk),some (.ref pd),z3,z4,z5,z6,z7]) ?_ ?_)
 ·(refine WP.w_if ?_; fail "g")
  refine Zdg (x.lst (by simp) gd) hd (by omega) (by omega) fun u u0 u1=>?_
  fail "g"
  refine⟨fun v=>?_,fun v=>?_⟩
  ·fail "g"
   refine Zq1 (appL (x.lst (by simp) gm)) last ?_
   have X1:Fm [] H (H'++[.lst []]):=x.trans (Fm.app _)
   fail "g"
   cases em:made.isEmpty with
   | true=>fail "g"; exact⟨X1,_,_,_,_,_,rfl⟩
   | false =>
    have lm:0<made.length:=by cases made with | nil=>cases em | cons a b=>simp
    have nl:=Zti ks
    have h8:=c.h8
    refine w_bnt ?_
    fail "g"
    refine Ztk c.hk c.h8 ⟨by simp; omega,?_⟩
    have X2:Fm [] H (H'++[.lst []]++[.lst ((nms ks).map .int)]):=X1.trans (Fm.app _)
    have gN:(H'++[.lst []]++[.lst ((nms ks).map .int)])[(H'++[DO.lst []]).length]? = some (.lst ((nms ks).map .int)):=last
    generalize (H'++[.lst []]++[.lst ((nms ks).map .int)])=H2 at X2 gN ⊢
    generalize (H'++[DO.lst []]).length=pN at gN ⊢
    fail "g"
    refine w_lenR (X2.lst (by simp) gm) ?_
    fail "g"
    rw[Xo]
    refine⟨_,rfl,⟨by omega,by omega⟩,?_⟩
    rw[Waf]
    refine Zkr (fun σ H'=>Fm [] H H'/\H'[pN]? = some (.lst ((nms ks).map .int))/\∃ z4 z5 z6 z7,σ=[some (Zal ks rss),some (.str "some"),some (.ref pm),some (.ref pk),some (.ref pd),some (.ref pN),z4,z5,z6,z7]) (fun _ _ _=>Ze8) _ (fun d hd0 σ H3 zz=>?_) _ _ ⟨X2,gN,_,_,_,_,rfl⟩ fun σ H3 zz=>?_
    ·obtain⟨i1,i2,z4,z5,z6,z7,i4⟩:=zz
     subst i4
     simp only[Zba,Xn,Wbk] at hd0
     obtain⟨tn,htn,rfl⟩:=hd0
     fail "g"
     refine Zdg (i1.lst (by simp) gd) hd (by omega) (by omega) fun u2 u20 u21=>?_
     fail "g"
     refine w_lenR (i1.lst (by simp) gm) ?_
     rw[Xo]
     fail "g"
     refine w_mod (by omega) ?_
     fail "g"
     refine Zdg (i1.lst (by simp) gd) hd (by omega) (by omega) fun u3 u30 u31=>?_
     fail "g"
     refine w_lenR (i1.lst (by simp) gm) ?_
     rw[Xo]
     fail "g"
     refine w_mod (by omega) ?_
     obtain⟨i,hi⟩:∃ i:Nat,(u2+(0+(tn:Int))) % (made.length:Int)=i:=⟨((u2+(0+(tn:Int))) % (made.length:Int)).toNat,by have:=Wbf (u2+(0+(tn:Int))) (show (made.length:Int)≠0 by omega); omega⟩
     obtain⟨j,hj⟩:∃ j:Nat,(u3+3*(0+(tn:Int))) % (made.length:Int)=j:=⟨((u3+3*(0+(tn:Int))) % (made.length:Int)).toNat,by have:=Wbf (u3+3*(0+(tn:Int))) (show (made.length:Int)≠0 by omega); omega⟩
     have li:=Was (u2+(0+(tn:Int))) (show 0<(made.length:Int) by omega)
     have lj:=Was (u3+3*(0+(tn:Int))) (show 0<(made.length:Int) by omega)
     rw[hi] at li
     rw[hj] at lj
     rw[hi,hj]
     fail "g"
     refine Zkr (fun σ H'=>Fm [] H H'/\H'[pN]? = some (.lst ((nms ks).map .int))/\∃ z7,σ=[some (Zal ks rss),some (.str "some"),some (.ref pm),some (.ref pk),some (.ref pd),some (.ref pN),some (.int (0+(tn:Int))),some (.int i),some (.int j),z7]) (fun σ H' i=>Zot i.2.1) _ (fun d hd0 σ H4 zz=>?_) _ _ ⟨i1,i2,_,rfl⟩ fun σ H4 zz=>?_
     ·obtain⟨k1,k2,z7,k4⟩:=zz
      subst k4
      obtain⟨n,hn,rfl⟩:=Xn.mp hd0
      obtain⟨n1,n2,n3⟩:=Zuu.mp hn
      fail "i"
      have li':i<made.length:=by omega
      have lj':j<made.length:=by omega
      refine w_ixR (k1.lst (by simp) gm) (Zga li') ?_
      fail "g"
      refine w_ixR (k1.lst (by simp) gm) (Zga lj') ?_
      fail "g"
      refine Zjo (hm _ (Xy li')) (hm _ (Xy lj')) c.h8 n1 fun H5 x5=>?_
      fail "g"
      have X5:=k1.trans x5
      cases ej:Zeg made[i] made[j] n with
      | none =>
       refine w_isnN (b:=true) rfl ?_
       fail "g"
       exact⟨X5,x5.lst (by simp) k2,_,rfl⟩
      | some y =>
       refine w_isnN (b:=false) rfl ?_
       fail "g"
       exact q _ _ _ X5 (.joined i j n y li' lj' ⟨n1,n2⟩ n3 ej)
     ·obtain⟨k1,k2,z7,k4⟩:=zz
      subst k4
      fail "g"
      exact⟨k1,k2,_,_,_,_,rfl⟩
    ·obtain⟨i1,i2,z4,z5,z6,z7,i4⟩:=zz
     subst i4
     fail "g"
     exact⟨i1,_,_,_,_,_,rfl⟩
  ·fail "g"
   exact⟨x,_,_,_,_,_,rfl⟩
 rintro _ H' ⟨x,z3,z4,z5,z6,z7,rfl⟩
 obtain⟨xs,f⟩:=Zo3 pls
 have gp':=x.lst (by simp) gp
 have h8:=c.h8
 fail "i"
 fail "i"
 refine Zin f (by omega) (appL gp') last ?_
 have X1:Fm [] H (H'++[.lst []]):=x.trans (Fm.app _)
 fail "g"
 cases er:pls with
 | nil=>fail "g"; exact q0 _ X1
 | cons y r =>
  rw[<- er]
  rw[show (pls.map Zaq).isEmpty=false by rw[er]; rfl]
  have lr:0<pls.length:=by rw[er]; simp
  fail "g"
  refine Zdg (X1.lst (by simp) gd) hd (by omega) (by omega) fun u u0 u1=>?_
  fail "g"
  rw[Xo]
  refine w_mod (by omega) ?_
  refine Zy1 (appL gp') (by simp) (by omega) fun pl hpl=>?_
  obtain⟨bs,hbs,rfl⟩:=Xn.mp hpl
  obtain⟨lb,kb⟩:=hp bs hbs
  fail "g"
  refine Zw0 (k:=4) (X1.lst (by simp) gd) ?_
  rw[<- Wcp]
  fail "g"
  refine Zww h8 c.hr lb kb last (hd.drop 4) (by simp; omega) fun ls H2 x2 u com=>?_
  fail "g"
  exact q _ _ _ ((X1.trans (Fm.app _)).trans x2) (.row ls u com)
end
variable {σ:SD} {H:HD} {Q:D->HD->Prop}
section
variable {ks:List D} {rss:List (List Int)} {sd:D}
nonrec def plB (d:D):List Bool:=match d with
 | .tup xs=>xs.map fun x=>match x with
  | .bl b=>b
  | _=>false
 | _=>[]
theorem Zq7 (bs:List Bool):plB (Zaq bs)=bs:=by
 show (bs.map D.bl).map _=bs
 rw[Waw]
 exact Wfo bs
theorem Zmw {many:Nat} (c:CR ks rss) (hm:many<=14) (at':∀ (H1:HD) (k:Int) (Q:D->HD->Prop),Fm [] H H1->0<=k->k<=1000->(∀ c,Q (.int c) H1)->wE (Zd3 [sd,.int k] H1) Q)
  (q:∀ p ds H',H'[p]? = some (.lst ds)->mok ks rss [] ds=true->ds.length<=14->Fm [] H H'->Q (.ref p) H'):wE (Zct [Zal ks rss,.str "some",sd,.int 2,.int many] H) Q:=by
 have h8:=c.h8
 refine Za6 rfl ?_
 show wS (Zbm [some (Zal ks rss),some (.str "some"),some sd,some (.int 2),some (.int many),none,none,none,none,none,none] H) _
 unfold Zbm
 fail "g"
 refine Zue h8 fun pp pls H1 gp lp l256 xp=>?_
 fail "g"
 refine Zb2 (fun d=>keeps rss (plB d)) (fun H'=>Fm [] H1 H') (fun H' j=>Zot (j.lst (by simp) gp)) _ (fun x hx H2 j=>?_) _ Fm.refl fun H2 j=>?_
 ·obtain⟨bs,hb,rfl⟩:=Xn.mp hx
  show wT (tNo _ (some (Zaq bs)::[some (Zal ks rss)]) H2) _
  fail "g"
  refine Zqh h8 c.hr (lp bs hb) fun H3 x3=>?_
  fail "g"
  rw[Zq7,Wes]
  exact⟨rfl,j.trans x3⟩
 have ef:(pls.map Zaq).filter (fun d=>keeps rss (plB d))=(pls.filter (keeps rss)).map Zaq:=by
  rw[Wbn]
  congr 1
  exact Wfl fun bs _=>by simp only[Tcl,Zq7]
 rw[ef]
 have lf:=Wai (keeps rss) pls
 have hkp:∀ bs∈pls.filter (keeps rss),bs.length=ks.length/\keeps rss bs=true:=fun bs hb=>by
  obtain⟨h1,h2⟩:=Waa.mp hb
  exact⟨lp bs h1,h2⟩
 generalize pls.filter (keeps rss)=kp at lf hkp
 refine⟨by simp; omega,?_⟩
 have l5:(H++[DO.lst []]).length=H.length+1:=by simp
 rw[l5]
 have X0:Fm [] H (H++[.lst []]++[.lst []]):=(Fm.app _).trans (Fm.app _)
 have Y:=(xp.trans j).trans (Fm.app (S:=[]) [DO.lst (kp.map Zaq)])
 have Z:=X0.trans Y
 have g5:(H2++[.lst (kp.map Zaq)])[H.length]? = some (.lst []):=Y.lst (by simp) (appL last)
 have g6:(H2++[.lst (kp.map Zaq)])[H.length+1]? = some (.lst []):=Y.lst (by simp) (by rw[<- l5]; exact last)
 have gk:(H2++[.lst (kp.map Zaq)])[H2.length]? = some (.lst (kp.map Zaq)):=last
 generalize H2++[.lst (kp.map Zaq)]=H3 at g5 g6 gk Z ⊢
 have npk:H.length+2<=H2.length:=by have h1:=j.len; have h2:=xp.len; simp at h2; omega
 generalize H2.length=pk at gk npk ⊢
 clear Y j xp
 fail "g"
 refine⟨_,rfl,⟨by omega,by omega⟩,?_⟩
 rw[Waf]
 refine Zbo (fun d t σ H'=>∃ (ds:List D) (z6 z7 z8:Option D),(∀ x∈t,∃ i:Nat,x=.int i/\i<=14)/\d.length+t.length=many/\ds.length<=d.length/\mok ks rss [] ds=true/\H'[pk]? = some (.lst (kp.map Zaq))/\H'[H.length]? = some (.lst ds)/\H'[H.length+1]? = some (.lst ((mad ks rss [] ds).map Zaz))/\Fm [] H H'/\σ=[some (Zal ks rss),some (.str "some"),some sd,some (.int 2),some (.int many),some (.ref H.length),some (.ref (H.length+1)),some (.ref pk),z6,z7,z8]) (fun _ _ _ _ _=>Ze8) (fun d x t σ H1 zz=>?_) (fun d σ H1 zz=>?_) _ [] _ _ ⟨[],none,none,none,fun x hx=>?_,by simp[Zba],by simp,rfl,gk,g5,g6,Z,rfl⟩
 ·obtain⟨ds,z6,z7,z8,i1,i2,i3,i4,ik,i6,i7,i8,i9⟩:=zz
  subst i9
  obtain⟨i,rfl,hi⟩:=i1 x (by simp)
  have lm:=Zkd ks rss ds [] i4
  simp at i2 lm
  fail "g"
  refine at' _ _ _ i8 (by omega) (by omega) fun cell=>?_
  fail "g"
  refine Zim (many:=24) (by omega) fun dg pd H2 l2 d2 g2 n2 x2=>?_
  fail "g"
  refine Zw0 (k:=14) g2 ?_
  rw[<- Wcp]
  fail "g"
  have X3:Fm [] H1 (H2++[.lst ((dg.drop 14).map .int)]):=x2.trans (Fm.app _)
  have g4:=X3.lst (by simp) i6
  have g5:=X3.lst (by simp) i7
  have tl:∀ y∈t,∃ i:Nat,y=.int i/\i<=14:=fun y hy=>i1 y (by simp[hy])
  refine Yat c (Ztj c.hr ds [] (by simp)) (by omega) g5 (X3.lst (by simp) ik) hkp (by omega) last (d2.drop 14) (by simp; omega) (fun H4 x4=>?_) fun s y H4 x4 st=>?_
  ·have X4:=X3.trans x4
   fail "i"
   exact⟨ds,_,_,_,tl,by simp; omega,by simp; omega,i4,X4.lst (by simp) ik,X4.lst (by simp) i6,X4.lst (by simp) i7,i8.trans X4,rfl⟩
  ·have X4:=X3.trans x4
   obtain⟨sn,zs,_,_,rfl⟩:=st.shape
   obtain⟨s1,s2⟩:=Zlg i4 st.stp
   have g4:=X4.lst (by simp) i6
   have g5:=X4.lst (by simp) i7
   fail "i"
   refine⟨isl g4,?_⟩
   fail "g"
   refine Ze3 g4 (by omega) ?_
   fail "g"
   have n45:H.length≠H.length+1:=by omega
   have nk1:H.length≠pk:=by omega
   have nk2:H.length+1≠pk:=by omega
   have g5':(H4.set H.length (.lst (ds++[sD sn zs])))[H.length+1]? = some (.lst ((mad ks rss [] ds).map Zaz)):=Zrc n45 g5
   refine⟨isl g5',?_⟩
   fail "g"
   refine Zsp c.hk c.h8 c.hr (Ztj c.hr ds [] (by simp)) g5' st fun H6 x6=>?_
   fail "g"
   have g56:=x6.lst (by simp) g5'
   refine Ze3 g56 (by simp; omega) ?_
   fail "g"
   refine⟨ds++[sD sn zs],_,_,_,tl,by simp; omega,by simp; omega,s1,Zrc nk2 (x6.lst (by simp) (Zrc nk1 (X4.lst (by simp) ik))),Zrc (by omega) (x6.lst (by simp) (Zhu g4)),?_,?_,rfl⟩
   ·rw[Zhu g56,s2]
    simp
   ·have y1:=(i8.trans X4).new (Fm.set (S:=[H.length]) (p:=H.length) (o:=.lst (ds++[sD sn zs])) (by simp)) (fun q hq _=>by simp at hq; subst hq; exact Xd _)
    exact(y1.trans x6).new (Fm.set (S:=[H.length+1]) (by simp)) (fun q hq _=>by simp at hq; subst hq; exact Wed _)
 rotate_left
 ·simp only[Zba,Xn,Wbk] at hx
  obtain⟨k,hk,rfl⟩:=hx
  exact⟨k,by simp,by omega⟩
 ·obtain⟨ds,z6,z7,z8,i1,i2,i3,i4,ik,i6,i7,i8,i9⟩:=zz
  subst i9
  simp at i2
  fail "g"
  exact q _ _ _ i6 i4 (by omega) i8
end
theorem Zwq {a b:List (List Int)} {x:List Int} (h:b.getLast? = some x):(a++b).getLast? = some x:=by rw[Wcr,h]; rfl
theorem Zyk:∀ (k:Nat) (bs:List Bool),bs.length=k->bs∈lev k:=by
 intro k
 induction k with
 | zero=>intro bs h; rw[Wda.mp h]; simp[lev]
 | succ k ih =>
  intro bs h
  have hn:bs≠[]:=fun z=>by rw[z] at h; cases h
  have e:=List.dropLast_concat_getLast hn
  rw[lev,Wdl]
  refine⟨bs.dropLast,ih _ (by simp; omega),?_⟩
  generalize bs.dropLast=cs at e
  generalize bs.getLast hn=t at e
  subst e
  cases t<;>simp[two]
nonrec def Zwl (b:Bool):Str:=if b then "some" else "all"
theorem Zq2 (b:Bool):Zbx b=.str (Zwl b):=by cases b<;>rfl
theorem Zy6 (b:Bool):Tan (Zwl b)=true:=by cases b<;>exact Zf4 (by decide)
theorem Ydf (a b:Bool):(Zwl a==Zwl b)=(a==b):=by
 have e1:(("some" : Str)==("all" : Str))=false:=by decide
 have e2:(("all" : Str)==("some" : Str))=false:=by decide
 cases a<;>cases b<;>simp[Zwl,e1,e2]
theorem Yfd {H:HD} {q:Nat} {a b w:Bool} (h:H[q]? = some (.lst [Zbx a,Zbx b])):inD (Zbx w) (.ref q) H=some (.bl (a==w||b==w),H):=by
 have e1:dat (Zbx w) H=some (.str (Zwl w)):=by
  unfold dat
  rw[Zq2,Zjq]
  simp only[Zb]
  rw[if_pos]
  simp[okP,Tad,Tam,Zy6]
 have e2:dat (.ref q) H=some (.list [.str (Zwl a),.str (Zwl b)]):=by
  unfold dat
  rw[toP]
  simp only[h,Zq2,Zvd,Zjq,Zb,Wel]
  rw[if_pos]
  simp[okP,Tad,Tah,Tam,Tbv,Zy6]
 unfold inD
 rw[e1]
 simp only[Zb]
 rw[e2]
 simp only[Zb,Znx,Wel]
 have:∀ x y:Bool,Ub (.str (Zwl x)) (.str (Zwl y))=(x==y):=fun x y=>by
  rw[<- Ydf]; simp[Ub]
 simp[this]
theorem Zyc {ks:List D} {rss:List (List Int)} {bs:List Bool} (h:bs.length=ks.length):Zbx (keeps rss bs)=FW ks rss bs:=by
 unfold FW
 rw[h,Weq]
 rfl
theorem Zxj {ks:List D} {rss:List (List Int)} {bs:List Bool} {w a b:Bool} (h:bs.length<ks.length) (ew:kS (ks.getD bs.length .non)=w) (ea:W ks rss (ks.length - (bs++[false]).length) (bs++[false])=a) (eb:W ks rss (ks.length - (bs++[true]).length) (bs++[true])=b):FW ks rss bs=if (a==w||b==w)=true then Zbx w else Zbx (!w):=by
 have l:∀ t:Bool,(bs++[t]).length=bs.length+1:=fun t=>by simp
 have e:ks.length - bs.length=(ks.length - (bs.length+1))+1:=by omega
 rw[l] at ea eb
 unfold FW
 rw[e,W]
 simp only[ea,eb,ew]
 cases a<;>cases b<;>cases w<;>rfl
nonrec abbrev wb1:SF:=(Zaf (Zsl (eOp ixD (Zdj (Zab (eC (.str "some")) (Zab (eC (.str "all")) Zag))) (eCB Zrh (Zab (Zap 2 Zcs (Zab (Zac 5) (Zab (Zac 2) Zag))) Zag))) (gSb (Zac 1) (Zac 2) Znv))
 Zaj)
nonrec abbrev wb2:SF:=(Zaf (Zbe 6 (Zdj (Zab (eOp Zf6 (Zac 1) (eOp Zb6 (Zac 2) (Zdk (Zab (eC (.bl false)) Zag)))) (Zab (eOp Zf6 (Zac 1) (eOp Zb6 (Zac 2) (Zdk (Zab (eC (.bl true)) Zag)))) Zag))))
 (Zaf (Zbe 7 (eOp ixD (Zdj (Zab (eC (.str "all")) (Zab (eC (.str "some")) Zag))) (eCB Zrh (Zab (eOp eqD (eOp ixD (Zac 4) (Zac 3)) (eC (.str "all"))) Zag))))
 (Zaf (Zsl (eOp ixD (Zdj (Zab (Zac 7) (Zab (eOp ixD (Zac 4) (Zac 3)) Zag))) (eCB Zrh (Zab (eOp inD (eOp ixD (Zac 4) (Zac 3)) (Zac 6)) Zag))) (gSb (Zac 1) (Zac 2) Znv))
 Zaj)))
section
variable {ks:List D} {rss:List (List Int)} {bs:List Bool} {dn:List (List Bool)} {f:Nat} {z0 z3 z6 z7:Option D} {R:FD->SD->HD->Prop}
theorem w_wb1 (c:CR ks rss) (hb:bs.length=ks.length) (gf:H[f]? = some (.dic (dn.map (kvD (FW ks rss))) false)) (hn:bs∉dn) (hl:dn.length<=10000)
  (q:∀ H',ExtS [] H H'->R .nx [z0,some (.ref f),some (Zaq bs),z3,some (.tup ks),some (.tup (rss.map Zaz)),z6,z7] (H'.set f (.dic ((dn++[bs]).map (kvD (FW ks rss))) false))) :
  wS (wb1 [z0,some (.ref f),some (Zaq bs),z3,some (.tup ks),some (.tup (rss.map Zaz)),z6,z7] H) R:=by
 unfold wb1
 fail "g"
 refine Zsv c.h8 c.hr hb fun H2 x2=>?_
 fail "g"
 refine w_ixR (x2.fm.lst (by simp) last) (d:=Zbx (keeps rss bs)) (by cases keeps rss bs; exact at1 _ _; exact at0 _ _) ?_
 fail "g"
 refine Ydm (x2.old _ _ (by simp) (appL gf)) (Zyc hb) hn hl ?_
 fail "g"
 exact q _ ((ExtS.app _).trans x2)
theorem w_wb2 (c:CR ks rss) (hb:bs.length<ks.length) (gf:H[f]? = some (.dic (dn.map (kvD (FW ks rss))) false)) (h1:∀ t:Bool,bs++[t]∈dn) (hn:bs∉dn) (hl:dn.length<=10000)
  (q:∀ H' a b,ExtS [] H H'->R .nx [z0,some (.ref f),some (Zaq bs),some (.int bs.length),some (.tup ks),some (.tup (rss.map Zaz)),a,b] (H'.set f (.dic ((dn++[bs]).map (kvD (FW ks rss))) false))) :
  wS (wb2 [z0,some (.ref f),some (Zaq bs),some (.int bs.length),some (.tup ks),some (.tup (rss.map Zaz)),z6,z7] H) R:=by
 have h8:=c.h8
 unfold wb2
 fail "g"
 refine Zwh gf (h1 false) ?_
 fail "g"
 refine Zwh gf (h1 true) ?_
 obtain⟨a,ea,fa⟩:∃ a,W ks rss (ks.length - (bs++[false]).length) (bs++[false])=a/\FW ks rss (bs++[false])=Zbx a:=⟨_,rfl,rfl⟩
 obtain⟨b,eb,fb⟩:∃ a,W ks rss (ks.length - (bs++[true]).length) (bs++[true])=a/\FW ks rss (bs++[true])=Zbx a:=⟨_,rfl,rfl⟩
 have sk:=Zlv c.hk hb
 have st:=Zxj (rss:=rss) hb rfl ea eb
 generalize kS (ks.getD bs.length .non)=w at sk st
 rw[fa,fb]
 fail "g"
 refine w_ixT (Zcj sk) ?_
 fail "g"
 refine Zhf (b:=false) ?_
 fail "g"
 refine w_ixR last (d:=Zbx (!w)) (by cases w; exact at1 _ _; exact at0 _ _) ?_
 fail "g"
 refine w_ixT (Zcj sk) ?_
 fail "g"
 refine w_ixT (Zcj sk) ?_
 fail "g"
 refine⟨_,_,Yfd (appL (appL last)),?_⟩
 fail "g"
 refine w_ixR last (d:=FW ks rss bs) (by rw[st]; cases (a==w||b==w); exact at0 _ _; exact at1 _ _) ?_
 fail "g"
 refine Ydm (appL (appL (appL gf))) rfl hn hl ?_
 fail "g"
 exact q _ _ _ (((ExtS.app _).trans (ExtS.app _)).trans (ExtS.app _))
theorem w_wl1 {qp:Nat} {z2:Option D} (c:CR ks rss) (g:H[qp]? = some (.lst ((lev ks.length).map Zaq))) (gf:H[f]? = some (.dic [] false)) {H0:HD} (hf:H0.length<=f) (x0:Fm [] H0 H)
  (q:∀ z H',H'[f]? = some (.dic ((lev ks.length).map (kvD (FW ks rss))) false)->Fm [] H0 H'->R .nx [z0,some (.ref f),z,z3,some (.tup ks),some (.tup (rss.map Zaz)),z6,z7] H') :
  wS (Zif [(qp,.lst ((lev ks.length).map Zaq))] (gNm 2) wb1 ((lev ks.length).map Zaq) [z0,some (.ref f),z2,z3,some (.tup ks),some (.tup (rss.map Zaz)),z6,z7] H) R:=by
 have l256:=Zhk c.h8
 have nf:f≠qp:=fun e=>by rw[e,g] at gf; cases gf
 refine Zbo (fun d t σ H'=>∃ (dn td:List (List Bool)) (z:Option D),t=td.map Zaq/\lev ks.length=dn++td/\H'[qp]? = some (.lst ((lev ks.length).map Zaq))/\H'[f]? = some (.dic (dn.map (kvD (FW ks rss))) false)/\Fm [] H0 H'/\σ=[z0,some (.ref f),z,z3,some (.tup ks),some (.tup (rss.map Zaz)),z6,z7]) (by rintro d t σ H' ⟨dn,td,z,i1,i2,i3,i4,i5,i6⟩; exact Zot i3) (fun d x t σ H' zz=>?_) (fun d σ H' zz=>?_) _ [] _ _ ⟨[],lev ks.length,z2,rfl,rfl,g,gf,x0,rfl⟩
 ·obtain⟨dn,td,z,i1,i2,i3,i4,i5,i6⟩:=zz
  subst i6
  cases td with
  | nil=>cases i1
  | cons b tr =>
   obtain⟨rfl,rfl⟩:=Wbe.inj i1
   have nd:=Zjl ks.length
   have lb:=Zez ks.length b (by rw[i2]; simp)
   rw[i2] at nd
   have hn:b∉dn:=fun z=>(Waq.mp nd).2.2 b z b (by simp) rfl
   have ln:dn.length<=256:=by have:=congrArg Wbo i2; simp at this; omega
   refine w_gnm ?_
   refine w_wb1 (bs:=b) c lb i4 hn (by omega) fun H2 x2=>?_
   refine w_agn ?_
   exact⟨dn++[b],tr,_,rfl,by rw[i2]; simp,Zrc nf (x2.old _ _ (by simp) i3),Zhu (x2.old _ _ (by simp) i4),(i5.trans x2.fm).new (Fm.set (S:=[f]) (by simp)) (fun m hm _=>by simp at hm; omega),rfl⟩
 ·obtain⟨dn,td,z,i1,i2,i3,i4,i5,i6⟩:=zz
  subst i6
  cases td with
  | cons b tr=>cases i1
  | nil =>
   rw[Wab] at i2
   rw[<- i2] at i4
   exact q z H' i4 i5
theorem w_wl2 {m qp:Nat} {z2:Option D} {base:List (List Bool)} (c:CR ks rss) (hm:m<ks.length) (g:H[qp]? = some (.lst ((lev m).map Zaq))) (gf:H[f]? = some (.dic (base.map (kvD (FW ks rss))) false)) {H0:HD} (hf:H0.length<=f) (x0:Fm [] H0 H)
  (h1:∀ b∈lev (m+1),b∈base) (h2:∀ b∈base,m<b.length) (h3:base.length<=5000)
  (q:∀ z a b H',H'[f]? = some (.dic ((base++lev m).map (kvD (FW ks rss))) false)->Fm [] H0 H'->R .nx [z0,some (.ref f),z,some (.int m),some (.tup ks),some (.tup (rss.map Zaz)),a,b] H') :
  wS (Zif [(qp,.lst ((lev m).map Zaq))] (gNm 2) wb2 ((lev m).map Zaq) [z0,some (.ref f),z2,some (.int m),some (.tup ks),some (.tup (rss.map Zaz)),z6,z7] H) R:=by
 have h8:=c.h8
 have l256:=Zhk (k:=m) (by omega)
 have nf:f≠qp:=fun e=>by rw[e,g] at gf; cases gf
 refine Zbo (fun d t σ H'=>∃ (dn td:List (List Bool)) (z a b:Option D),t=td.map Zaq/\lev m=dn++td/\H'[qp]? = some (.lst ((lev m).map Zaq))/\H'[f]? = some (.dic ((base++dn).map (kvD (FW ks rss))) false)/\Fm [] H0 H'/\σ=[z0,some (.ref f),z,some (.int m),some (.tup ks),some (.tup (rss.map Zaz)),a,b]) (by rintro d t σ H' ⟨dn,td,z,a,b,i1,i2,i3,i4,i5,i6⟩; exact Zot i3) (fun d x t σ H' zz=>?_) (fun d σ H' zz=>?_) _ [] _ _ ⟨[],lev m,z2,z6,z7,rfl,rfl,g,by rw[Wab]; exact gf,x0,rfl⟩
 ·obtain⟨dn,td,z,a,b,i1,i2,i3,i4,i5,i6⟩:=zz
  subst i6
  cases td with
  | nil=>cases i1
  | cons y tr =>
   obtain⟨rfl,rfl⟩:=Wbe.inj i1
   have nd:=Zjl m
   have my:y∈lev m:=by rw[i2]; simp
   have ly:=Zez m y my
   rw[i2] at nd
   have hn:y∉base++dn:=fun z=>by
    rcases Xm.mp z with z | z
    ·have:=h2 y z; omega
    ·exact(Waq.mp nd).2.2 y z y (by simp) rfl
   have ln:dn.length<=256:=by have:=congrArg Wbo i2; simp at this; omega
   refine w_gnm ?_
   subst ly
   refine w_wb2 c (by omega) i4 (fun t=>Xm.mpr (.inl (h1 _ (Zye t my)))) hn (by simp; omega) fun H2 a' b' x2=>?_
   refine w_agn ?_
   exact⟨dn++[y],tr,_,a',b',rfl,by rw[i2]; simp,Zrc nf (x2.old _ _ (by simp) i3),by rw[Zhu (x2.old _ _ (by simp) i4)]; simp,(i5.trans x2.fm).new (Fm.set (S:=[f]) (by simp)) (fun m hm _=>by simp at hm; omega),rfl⟩
 ·obtain⟨dn,td,z,a,b,i1,i2,i3,i4,i5,i6⟩:=zz
  subst i6
  cases td with
  | cons b tr=>cases i1
  | nil =>
   rw[Wab] at i2
   rw[<- i2] at i4
   exact q z a b H' i4 i5
theorem Zup (c:CR ks rss) (q:∀ (p:Nat) (dn:List (List Bool)) (H':HD),H'[p]? = some (.dic (dn.map (kvD (FW ks rss))) false)->(∀ b:List Bool,b.length<=ks.length->b∈dn)->H.length<=p->Fm [] H H'->Q (.ref p) H'):wE (Ze2 [Zal ks rss] H) Q:=by
 have h8:=c.h8
 have l256:=Zhk c.h8
 refine Za6 rfl ?_
 show wS (Zcn [some (.tup [.tup ks,.tup (rss.map Zaz)]),none,none,none,none,none,none,none] H) _
 unfold Zcn
 fail "g"
 refine Ziw h8 fun qp H1 g1 x1=>?_
 fail "g"
 have hne:H1[H.length]? = some (.dic [] false):=x1.old _ _ (by simp) last
 have X1:Fm [] H H1:=(Fm.app _).trans x1.fm
 refine w_wl1 (f:=H.length) c g1 hne (Xd _) X1 fun z H2 g2 x2=>?_
 fail "g"
 refine w_irb ?_
 fail "g"
 refine⟨_,_,_,rfl,⟨by omega,by omega,by omega,by omega,rfl⟩,?_⟩
 rw[show Zho ((ks.length:Int) - 1) (-1)=ks.length by unfold Zho; omega,Zur]
 refine Zbo (fun d t σ H'=>∃ (m:Nat) (dn:List (List Bool)) (z a b e:Option D),t=Zxq m/\m<=ks.length/\H'[H.length]? = some (.dic (dn.map (kvD (FW ks rss))) false)/\(∀ b:List Bool,m<=b.length->b.length<=ks.length->b∈dn)/\(∀ b∈dn,m<=b.length)/\dn.length+256*m<=256*9/\Fm [] H H'/\σ=[some (.tup [.tup ks,.tup (rss.map Zaz)]),some (.ref H.length),z,e,some (.tup ks),some (.tup (rss.map Zaz)),a,b]) (fun _ _ _ _ _=>Ze8) (fun d x t σ H' zz=>?_) (fun d σ H' zz=>?_) _ [] _ _ ⟨ks.length,lev ks.length,z,none,none,none,rfl,Xd _,g2,fun b h h'=>Zyk _ b (by omega),fun b h=>Nat.le_of_eq (Zez _ b h).symm,by omega,x2,rfl⟩
 ·obtain⟨m,dn,z,a,b,e,i1,i2,i3,i4,i5,i6,i7,i8⟩:=zz
  subst i8
  cases m with
  | zero=>cases i1
  | succ m =>
   obtain⟨rfl,rfl⟩:=Wbe.inj i1
   fail "g"
   refine Ziw (by omega) fun qp H2 g2 x2=>?_
   fail "g"
   refine w_wl2 (H0:=H) c (by omega) g2 (x2.old _ _ (by simp) i3) (Xd _) (i7.trans x2.fm) (fun b h=>i4 b (by have:=Zez _ b h; omega) (by have:=Zez _ b h; omega)) (fun b h=>i5 b h) (by omega) fun z' a' b' H3 g3 x3=>?_
   fail "g"
   refine⟨m,dn++lev m,_,_,_,_,rfl,by omega,g3,fun b h h'=>?_,fun b h=>?_,?_,x3,rfl⟩
   ·by_cases e:b.length=m
    ·exact Xw _ (Zyk _ b e)
    ·exact Wak _ (i4 b (by omega) h')
   ·rcases Xm.mp h with h | h
    ·have:=i5 b h; omega
    ·have:=Zez m b h; omega
   ·have:=Zhk (k:=m) (by omega)
    rw[Xq]; omega
 ·obtain⟨m,dn,z,a,b,e,i1,i2,i3,i4,i5,i6,i7,i8⟩:=zz
  subst i8
  cases m with
  | succ m=>cases i1
  | zero =>
   fail "g"
   exact q _ dn H' i3 (fun b h=>i4 b (Wbm _) h) (Xd _) i7
end
theorem Zun (ks:List D):∀ r:List Int,Zbj ks r=[]->∀ x∈r,Zd1 ks x=true
 | [],_,x,hx=>by cases hx
 | l::r,h,x,hx=>by
  rw[Zbj] at h
  split at h
  ·rename_i z; exact Xs.mp z x hx
  ·cases h
theorem Zhj (ks:List D):∀ (r:List Int) (x:Int),(Zbj ks r).getLast? = some x->Zd1 ks x=false
 | [],x,h=>by cases h
 | l::r,x,h=>by
  rw[Zbj] at h
  split at h
  ·cases h
  ·rename_i z
   cases e:Zbj ks r with
   | nil =>
    rw[e] at h
    cases h
    have al:=Zun ks r e
    show Zd1 ks l=false
    cases o:Zd1 ks l with
    | false=>rfl
    | true =>
     exact absurd (Xs.mpr fun y hy=>by
      rcases Xj.mp hy with rfl | hy
      ·exact o
      ·exact al y hy) z
   | cons a b =>
    refine Zhj ks r x ?_
    rw[e] at h ⊢
    rw[List.getLast?_cons_cons] at h
    exact h
theorem Zru (ks:List D) (r:List Int):Zbj ks (Zbj ks r)=Zbj ks r:=by
 have:=Zi7 ks (Zbj ks r) [] (by simp) (Zhj ks r)
 simpa using this
theorem Zz4 {m:Int} {r:List Int} {l:Int} (u:Up m 0 r) (h:l∈r):∃ z,r.getLast? = some z/\z∈r/\Zan l<=Zan z:=by
 rcases List.eq_nil_or_concat r with rfl | ⟨a,z,e⟩
 ·cases h
 ·rw[List.concat_eq_append] at e
  subst e
  refine⟨z,by simp,by simp,?_⟩
  rcases Xm.mp h with h | h
  ·exact Int.le_of_lt (Ztf u l h z (by simp))
  ·rw[Wbx.mp h]; exact Wcu _
structure Lt (ks:List D) (bs:List Bool) (r:List Int):Prop where
 up:Up ks.length 0 r
 ls:Zbj ks r=r
 wr:∀ l∈r,Zan l<=bs.length/\rig bs l=true
section
variable {ks:List D} {rss:List (List Int)} {bs:List Bool} {r x:List Int} {t:Bool}
theorem Lt.of (u:Up ks.length 0 x) (h:∀ l∈Zbj ks x,Zan l<=bs.length/\rig bs l=true):Lt ks bs (Zbj ks x):=by
 refine⟨?_,Zru ks x,h⟩
 obtain⟨tl,e,_⟩:=Zdy ks x
 rw[e] at u
 exact Zty u
theorem Lt.last (h:Lt ks bs r) {z:Int} (e:r.getLast? = some z):Zd1 ks z=false:=by
 rw[<- h.ls] at e
 exact Zhj ks r z e
theorem Zze {z:Int}:Zd1 ks z=kS (ks.getD (Zan z - 1).toNat .non):=by
 unfold Zd1
 rw[show (Zan z).toNat - 1=(Zan z - 1).toNat by omega]
theorem Lt.leaf (u:Up ks.length 0 x) (h:∀ l∈x,Zan l<=bs.length/\rig bs l=true):Lt ks bs (Zbj ks x):=Lt.of u fun l hl=>h l ((Zg5 ks x).subset hl)
theorem Ztr {l:Int} (h1:1<=Zan l) (h2:Zan l<=bs.length):rig (bs++[t]) l=rig bs l:=by
 have:=Zle (bs:=bs++[t]) (k:=bs.length) h2 h1
 rw[Wgc] at this
 exact this.symm
theorem Lt.skip (h:Lt ks (bs++[t]) r) (hn:∀ l∈r,Zan l≠(bs.length:Int)+1):Lt ks bs r:=by
 refine⟨h.up,h.ls,fun l hl=>?_⟩
 obtain⟨h1,h2⟩:=h.wr l hl
 have h3:=hn l hl
 have h4:=(Zlw (by omega) h.up).1.rg l hl
 rw[Xq,Wbj] at h1
 have h5:Zan l<=bs.length:=by omega
 rw[Ztr h4.1 h5] at h2
 exact⟨h5,h2⟩
theorem Lt.at (h:Lt ks (bs++[t]) r) {l:Int} (hl:l∈r) (e:Zan l=(bs.length:Int)+1):r.getLast? = some l/\l=if t then (bs.length:Int)+1 else -((bs.length:Int)+1):=by
 obtain⟨z,e1,hz,le⟩:=Zz4 h.up hl
 have h1:=(h.wr z hz).1
 rw[Xq,Wbj] at h1
 have ez:z=l:=(Zlw (by omega) h.up).1.inj hz hl (by omega)
 refine⟨by rw[e1,ez],?_⟩
 have h2:=(h.wr l hl).2
 unfold rig at h2
 rw[show (Zan l - 1).toNat=bs.length by omega,Wdr] at h2
 have ab:l=(bs.length:Int)+1\/l = -((bs.length:Int)+1):=by unfold Zan at e; split at e<;>omega
 cases t with
 | true =>
  rcases ab with y | y
  ·exact y
  ·rw[decide_eq_false (by omega)] at h2; cases h2
 | false =>
  rcases ab with y | y
  ·rw[decide_eq_true (by omega)] at h2; cases h2
  ·exact y
theorem Lt.pick (h:Lt ks (bs++[t]) r) (ho:kS (ks.getD bs.length .non)=true):Lt ks bs r:=by
 refine h.skip fun l hl e=>?_
 have:=h.last (h.at hl e).1
 rw[Zze,show (Zan l - 1).toNat=bs.length by omega,ho] at this
 cases this
theorem Zg8 (n:Nat):Zan ((n:Int)+1)=(n:Int)+1:=by unfold Zan; split<;>omega
theorem Lt.some (h:Lt ks (bs++[t]) r) (hn:(bs.length:Int)+1∈r \/ -((bs.length:Int)+1)∈r):r.getLast? = .some (if t then (bs.length:Int)+1 else -((bs.length:Int)+1)):=by
 rcases hn with e | e
 ·obtain⟨h1,h2⟩:=h.at e (Zg8 _)
  rw[h1]; exact congrArg _ h2
 ·obtain⟨h1,h2⟩:=h.at e (by rw[Zhn,Zg8])
  rw[h1]; exact congrArg _ h2
theorem Lt.none (h:Lt ks (bs++[t]) r) (h1:(bs.length:Int)+1∉r) (h2 : -((bs.length:Int)+1)∉r):Lt ks bs r:=by
 refine h.skip fun l hl e=>?_
 have ab:l=(bs.length:Int)+1\/l = -((bs.length:Int)+1):=by unfold Zan at e; split at e<;>omega
 rcases ab with y | y
 ·exact h1 (y ▸ hl)
 ·exact h2 (y ▸ hl)
theorem Lt.rest (h:Lt ks (bs++[t]) r) {n:Int} (e:r.getLast? = .some n) (hn:Zan n=(bs.length:Int)+1) {l:Int} (hl:l∈r) (hne:l≠n):1<=Zan l/\Zan l<=bs.length/\rig bs l=true:=by
 obtain⟨h1,h2⟩:=h.wr l hl
 have h4:=(Zlw (by omega) h.up).1.rg l hl
 rw[Xq,Wbj] at h1
 have h3:Zan l≠(bs.length:Int)+1:=fun z=>by
  have:=(h.at hl z).1
  rw[e] at this
  cases this
  exact hne rfl
 have h5:Zan l<=bs.length:=by omega
 rw[Ztr h4.1 h5] at h2
 exact⟨h4.1,h5,h2⟩
theorem Lt.join {a b:List Int} (ha:Lt ks (bs++[true]) a) (hb:Lt ks (bs++[false]) b) (ea:a.getLast? = .some ((bs.length:Int)+1)) (eb:b.getLast? = .some (-((bs.length:Int)+1))) :
  ∃ x,Zeg a b ((bs.length:Int)+1)=.some x/\Up ks.length 0 x/\∀ l∈x,Zan l<=bs.length/\rig bs l=true:=by
 have ra:=(Zlw (by omega) ha.up).1
 have rb:=(Zlw (by omega) hb.up).1
 have ma:∀ {l:Int},l∈a.filter (fun x=>decide (x≠(bs.length:Int)+1))->1<=Zan l/\Zan l<=bs.length/\rig bs l=true:=fun {l} h=>by
  obtain⟨h1,h2⟩:=Waa.mp h
  exact ha.rest ea (Zg8 _) h1 (of_decide_eq_true h2)
 have mb:∀ {l:Int},l∈b.filter (fun x=>decide (x ≠ -((bs.length:Int)+1)))->1<=Zan l/\Zan l<=bs.length/\rig bs l=true:=fun {l} h=>by
  obtain⟨h1,h2⟩:=Waa.mp h
  exact hb.rest eb (by rw[Zhn,Zg8]) h1 (of_decide_eq_true h2)
 have no:(b.filter fun x=>decide (x ≠ -((bs.length:Int)+1))).any (fun x=>decide (-x∈a.filter fun x=>decide (x≠(bs.length:Int)+1)))=false:=by
  rw[Wco]
  intro l hl z
  obtain⟨b1,b2,b3⟩:=mb hl
  obtain⟨_,_,a3⟩:=ma (of_decide_eq_true z)
  rw[Zos ⟨b1,b2⟩,b3] at a3
  cases a3
 unfold Zeg
 rw[if_neg (fun z=>z.elim (fun z=>z (Wdm ea)) fun z=>z (Wdm eb)),if_neg (by rw[no]; simp)]
 refine⟨_,rfl,Zil (R.join0 (ra.sub Wax) (rb.sub Wax) no),fun l hl=>?_⟩
 rcases Xm.mp ((Zbv _).mem_iff.mp hl) with z | z
 ·exact(ma z).2
 ·exact(mb (Waa.mp z).1).2
end
nonrec def eS (ks:List D):Nat:=if ks.all (fun d => !kS d)=true then 1 else 2
nonrec def nS (ks:List D) (i:Nat):Nat:=((ks.drop i).filter fun d => !kS d).length
theorem Ycs {ks:List D} {i:Nat} (h:i<ks.length) (ho:kS (ks.getD i .non)=true):nS ks i=nS ks (i+1):=by
 unfold nS
 rw[War h,Wba]
 rw[Xx,Xg h] at ho
 simpa using ho
theorem Ybw {ks:List D} {i:Nat} (h:i<ks.length) (ho:kS (ks.getD i .non)=false):nS ks i=nS ks (i+1)+1:=by
 unfold nS
 rw[War h,Wbs]
 ·rfl
 ·rw[Xx,Xg h] at ho
  simpa using ho
theorem Yag {ks:List D} {x:List Int} (r:R ks.length x) (h:Zbj ks x≠x):eS ks=2:=by
 obtain⟨tl,e,ho⟩:=Zdy ks x
 unfold eS
 refine if_neg fun z=>?_
 cases tl with
 | nil=>rw[Wab] at e; exact h e.symm
 | cons l tl =>
  have hl:l∈x:=by rw[e]; simp
  have o:=ho l (by simp)
  obtain⟨r1,r2⟩:=r.rg l hl
  have hi:(Zan l - 1).toNat<ks.length:=by omega
  rw[Zze,Xx,Xg hi] at o
  have:=Xs.mp z _ (Xy hi)
  simp only[Option.getD_some] at o
  rw[o] at this
  cases this
theorem Zys (ks:List D):1<=eS ks/\eS ks<=2:=by unfold eS; split<;>omega
nonrec def prD (e:D×List Int):D:=.tup [e.1,Zaz e.2]
structure Rp (ks:List D) (rss:List (List Int)) (L:List (D×List Int)):Prop where
 ok:mok ks rss [] (L.map (·.1))=true
 eq:mad ks rss [] (L.map (·.1))=L.map (·.2)
theorem Rp.snoc {ks:List D} {rss:List (List Int)} {L:List (D×List Int)} {d:D} {x:List Int} (h:Rp ks rss L) (st:St ks rss (L.map (·.2)) d x):Rp ks rss (L++[(d,x)]):=by
 obtain⟨s1,s2⟩:=Zlg h.ok (by rw[h.eq]; exact st.stp)
 refine⟨by rw[Waj]; exact s1,?_⟩
 rw[Waj,Waj]
 rw[h.eq] at s2
 exact s2
theorem _root_.WP.Fm.keep {S:List Nat} {H H':HD} (x:Fm S H H') {m:Nat} {o:DO} (hm:m∉S) (h:H[m]? = some o) (hd:∀ kvs,o≠.dic kvs false):H'[m]? = some o:=by
 rcases x.old m _ hm h with h1 | ⟨k2,e,_⟩
 ·exact h1
 ·exact absurd e (hd k2)
theorem _root_.WP.Fm.dci {S:List Nat} {H H':HD} (x:Fm S H H') {m:Nat} {kvs:List (Int×D)} (hm:m∉S) (h:H[m]? = some (.dci kvs)):H'[m]? = some (.dci kvs):=x.keep hm h fun _ e=>by cases e
variable {σ:SD} {H:HD} {Q:D->HD->Prop}
theorem Zjt:∀ a b:List Int,Uq (a.map .int) (b.map .int)=decide (a=b)
 | [],[]=>by simp[Uq]
 | [],_::_=>by simp[Uq]
 | _::_,[]=>by simp[Uq]
 | x::a,y::b=>by
  rw[Xl,Xl,Uq,Zjt a b]
  have:Ub (.int x) (.int y)=decide (x=y):=by simp[Ub]; rfl
  rw[this]
  by_cases h:x=y<;>by_cases k:a=b<;>simp[h,k]
theorem Zzy {a b:List Int} (q:Q (.bl (!decide (a=b))) H):wE (neD (Zaz a) (Zaz b) H) Q:=Zxh (Fine.tup (Zbn a)) (Fine.tup (Zbn b)) (by omega) (by omega) (by rw[Ub,Zjt]; exact q)
theorem Zyq {n:Nat} {kvs:List (Int×D)} {k:Int} {v:D} (g:H[n]? = some (.dci kvs)) (h:Zic kvs k=some v) (q:Q v H):wE (Ztd (.ref n) (.int k) H) Q:=⟨_,_,by simp[Ztd,Yb8,g,h],q⟩
section
variable {ks:List D} {rss:List (List Int)} {L:List (D×List Int)} {pp pc:Nat} {bs:List Bool}
theorem Zmz {d:D} {x:List Int} (c:CR ks rss) (g:H[pp]? = some (.lst (L.map prD))) (hl:L.length<=5000) (rt:Rp ks rss L) (st:St ks rss (L.map (·.2)) d x) (hx:R ks.length x)
  (q:∀ M e H',H'[pp]? = some (.lst ((L++M).map prD))->Rp ks rss (L++M)->M.getLast? = some (e,Zbj ks x)->M.length<=eS ks->Fm [pp] H H'->Q .non H'):wE (Zfz [.tup ks,.str "some",.ref pp,d,Zaz x] H) Q:=by
 have e12:=Zys ks
 have rt1:=rt.snoc st
 refine Za6 rfl ?_
 show wS (Zek [some (.tup ks),some (.str "some"),some (.ref pp),some d,some (Zaz x),none] H) _
 unfold Zek
 fail "g"
 refine⟨isl g,?_⟩
 fail "g"
 refine Ze3 g (by simp; omega) ?_
 fail "g"
 refine Zk5 c.hk c.h8 hx ?_
 have g1:(H.set pp (.lst (L.map prD++[.tup [d,Zaz x]])))[pp]? = some (.lst ((L++[(d,x)]).map prD)):=by rw[Zhu g,Waj]; rfl
 have x1:Fm [pp] H (H.set pp (.lst (L.map prD++[.tup [d,Zaz x]]))):=Fm.set (by simp)
 fail "i"
 refine Zzy ?_
 fail "g"
 refine⟨fun z=>?_,fun z=>?_⟩
 ·have z:Zbj ks x≠x:=by simpa using z
  have e2:=Yag hx z
  fail "g"
  refine⟨isl g1,?_⟩
  fail "g"
  rw[show ((List.map prD (L++[(d,x)])).length:Int) - 1=(L.length:Int) by simp]
  refine Ze3 g1 (by simp; omega) ?_
  fail "g"
  have s2:St ks rss ((L++[(d,x)]).map (·.2)) (.tup [.str "less",.int (L.length:Nat)]) (Zbj ks x):=by
   have:=St.less (ks:=ks) (rss:=rss) (made:=(L++[(d,x)]).map (·.2)) L.length (by simp)
   have e:((L++[(d,x)]).map (·.2))[L.length]'(by simp)=x:=by simp
   rw[e] at this
   exact this
  refine q [(d,x),(.tup [.str "less",.int (L.length:Nat)],Zbj ks x)] _ _ ?_ ?_ rfl (by rw[e2]; simp) (x1.trans (Fm.set (by simp)))
  ·rw[Zhu g1]
   simp[prD]
  ·have:=rt1.snoc s2
   rw[Wae] at this
   exact this
 ·have z:Zbj ks x=x:=by simpa using z
  fail "g"
  exact q [(d,x)] d _ g1 rt1 (by rw[z]; rfl) (by simp; omega) x1
theorem Yby {i m:Nat} {n:String} {x:Str} {F:D->FF} {f:AF} {j:Nat} {d:D} (h:σ[i]? = some (some (.ref j))) (g:H[j]? = some (.clo n x d)) (q:wA (f σ H) fun ds H1=>wN m (F d) ds H1 Q):wE (Zng i m n x F f σ H) Q:=by
 obtain⟨ds,H1,e,l,dd,H2,e2,q⟩:=q
 refine⟨dd,H2,?_,q⟩
 unfold Zng
 rw[h]
 simp only[g]
 rw[if_pos (by simp),e]
 simp only[Zb]
 rw[if_pos l]
 exact e2
theorem Ydv {n N:Nat} {b:SF} {d:D} {ds:List D} (hl:ds.length=n) (h:wS (b ((ds++[d]).map some++Xv (N - (n+1)) none) H) (fin Q)):wE (Yb9 n N b d ds H) Q:=by
 obtain⟨x,s,H1,e,q⟩:=h
 unfold Yb9
 rw[if_pos hl,e]
 simp only[Zb]
 cases x with
 | nx=>exact⟨_,_,rfl,q⟩
 | rt d=>exact⟨_,_,rfl,q⟩
 | bk=>exact q.elim
 | ct=>exact q.elim
theorem Zt4 {row zs:List Int} {n:Nat} (g:H[n]? = some (.dci (zs.map kvT))) (hl:row.length<=1000) (q:∀ H',Fm [] H H'->Q (.bl (comB row zs)) H'):wE (Zb5 [Zaz row,.ref n] H) Q:=by
 refine Za6 rfl ?_
 show wS (Zbb [some (.tup (row.map .int)),some (.ref n)] H) _
 unfold Zbb
 fail "g"
 refine Zkt (fun d=>.bl (decide (Zl6 d∈zs))) (fun H'=>H'=H) (fun _ _=>Ze8) _ (fun y hy H2 j=>?_) _ rfl fun H2 j=>?_
 ·obtain⟨z,hz,rfl⟩:=Xn.mp hy
  subst j
  fail "g"
  refine Ye4 g ?_
  rw[Zpf]
  exact⟨rfl,rfl⟩
 ·subst j
  refine⟨by simp; omega,?_⟩
  rw[show (row.map D.int).map (fun d=>D.bl (decide (Zl6 d∈zs)))=(row.map fun l=>decide (l∈zs)).map D.bl by rw[Waw,Waw]; rfl]
  fail "g"
  refine Ycn last ?_
  rw[Wfp]
  fail "g"
  exact q _ (Fm.app _)
theorem R.snocR {M:Nat} {zs:List Int} {l:Int} (h:R M zs) (hr:∀ x∈zs,rig bs x=true) (h1:1<=Zan l/\Zan l<=bs.length) (h2:Zan l<=M) (hl:rig bs l=true) (hn:l∉zs):R M (zs++[l]):=by
 refine⟨?_,fun y hy=>?_⟩
 ·rw[Waj,Waq]
  refine⟨h.nd,by simp,fun u hu v hv e=>?_⟩
  obtain⟨y,hy,rfl⟩:=Xn.mp hu
  simp at hv
  subst hv
  rcases Zk8 e with z | z
  ·exact hn (z ▸ hy)
  ·have:=hr y hy
   rw[z,Zos h1,hl] at this
   cases this
 ·rcases Xm.mp hy with z | z
  ·exact h.rg y z
  ·simp at z; subst z; exact⟨h1.1,h2⟩
theorem Zx8 (h8:ks.length<=8) (hr:∀ ls∈rss,R ks.length ls) (hb:bs.length<=ks.length) (hk:∀ ls∈rss,kept bs ls=true)
  (q:∀ ls H',Up ks.length 0 ls->(∀ row∈rss,∃ l∈row,l∈ls)->(∀ l∈ls,Zan l<=bs.length/\rig bs l=true)->Fm [] H H'->Q (Zaz ls) H'):wE (Zea [.tup (rss.map Zaz),Zaq bs] H) Q:=by
 refine Za6 rfl ?_
 show wS (Zb9 [some (.tup (rss.map Zaz)),some (Zaq bs),none,none,none] H) _
 unfold Zb9
 fail "g"
 refine Yaj ?_
 fail "g"
 refine Zbo (fun d t σ H'=>∃ (dn td:List (List Int)) (zs:List Int) (z3 z4:Option D),rss=dn++td/\t=td.map Zaz/\R ks.length zs/\(∀ l∈zs,Zan l<=bs.length/\rig bs l=true)/\(∀ row∈dn,∃ l∈row,l∈zs)/\H'[H.length]? = some (.dci (zs.map kvT))/\Fm [] H H'/\σ=[some (.tup (rss.map Zaz)),some (Zaq bs),some (.ref H.length),z3,z4]) (fun _ _ _ _ _=>Ze8) (fun d x t σ H1 zz=>?_) (fun d σ H1 zz=>?_) _ [] _ _ ⟨[],rss,[],_,_,rfl,rfl,⟨.nil,by simp⟩,by simp,by simp,last,Fm.app _,rfl⟩
 ·obtain⟨dn,td,zs,z3,z4,i1,i2,i3,i4,i5,i6,i7,i8⟩:=zz
  subst i8
  cases td with
  | nil=>cases i2
  | cons row td =>
   obtain⟨rfl,rfl⟩:=Wbe.inj i2
   have hm:row∈rss:=by rw[i1]; simp
   have rr:=hr row hm
   have lr:=rr.len
   have lz:=i3.len
   have i1':rss=(dn++[row])++td:=by rw[i1]; simp
   fail "i"
   refine Zt4 i6 (by omega) fun H2 x2=>?_
   have g2:=x2.dci (by simp) i6
   fail "g"
   cases hc:comB row zs with
   | true =>
    fail "g"
    refine⟨dn++[row],td,zs,_,_,i1',rfl,i3,i4,fun r h=>?_,g2,i7.trans x2,rfl⟩
    rcases Xm.mp h with h | h
    ·exact i5 r h
    ·rw[Wbx.mp h]
     obtain⟨l,h1,h2⟩:=Wau.mp hc
     exact⟨l,h1,of_decide_eq_true h2⟩
   | false =>
    fail "g"
    refine⟨row.map .int,[],rfl,?_⟩
    refine Zb2 (fun d=>rig bs (Zl6 d)) (fun H'=>H'=H2) (fun _ j=>Ze8) _ (fun y hy H3 j=>?_) _ rfl fun H3 j=>?_
    ·obtain⟨z,hz,rfl⟩:=Xn.mp hy
     subst j
     fail "g"
     refine Zvk (by have:=(rr.rg z hz).1; omega) ?_
     fail "g"
     exact⟨rfl,rfl⟩
    subst j
    have ef:(row.map D.int).filter (fun d=>rig bs (Zl6 d))=(row.filter (rig bs)).map .int:=by
     rw[Wbn]
     rfl
    rw[ef]
    refine⟨by have:=Wai (rig bs) row; simp at this ⊢; omega,?_⟩
    obtain⟨l0,hl0,hr0⟩:=Wau.mp (hk row hm)
    cases er:row.filter (rig bs) with
    | nil=>exact absurd (Waa.mpr ⟨hl0,hr0⟩) (by rw[er]; simp)
    | cons l ls' =>
     obtain⟨ml,hl⟩:=Waa.mp (show l∈row.filter (rig bs) by rw[er]; simp)
     have al:Zan l<=bs.length:=by
      refine Int.not_lt.mp fun z=>?_
      unfold rig at hl
      rw[Wby (by omega)] at hl
      cases hl
     have nz:l∉zs:=fun z=>by
      have:=Wco.mp hc l ml
      exact this (decide_eq_true z)
     have rl:=rr.rg l ml
     fail "g"
     refine w_ixR last (d:=.int l) (Zcj (j:=0) rfl) ?_
     fail "g"
     refine Zpz (appL g2) (by simp; omega) ?_
     rw[Zzb,if_neg nz]
     fail "g"
     refine⟨dn++[row],td,zs++[l],_,_,i1',rfl,i3.snocR (fun x hx=>(i4 x hx).2) ⟨rl.1,al⟩ rl.2 hl nz,fun y hy=>?_,fun r h=>?_,Zhu (appL g2),((i7.trans x2).trans (Fm.app _)).new (Fm.set (S:=[H.length]) (by simp)) (fun q hq _=>by simp at hq; subst hq; exact Xd _),rfl⟩
     ·rcases Xm.mp hy with hy | hy
      ·exact i4 y hy
      ·rw[Wbx.mp hy]; exact⟨al,hl⟩
     ·rcases Xm.mp h with h | h
      ·obtain⟨y,y1,y2⟩:=i5 r h
       exact⟨y,y1,Wak _ y2⟩
      ·rw[Wbx.mp h]
       exact⟨l,ml,by simp⟩
 ·obtain⟨dn,td,zs,z3,z4,i1,i2,i3,i4,i5,i6,i7,i8⟩:=zz
  subst i8
  cases td with
  | cons row td=>cases i2
  | nil =>
   rw[Wab] at i1
   subst i1
   have lz:=i3.len
   fail "g"
   refine Zqn i6 (by omega) i3.nd ?_
   fail "g"
   have mem:∀ {l:Int},l∈Zda zs ↔ l∈zs:=(Zbv zs).mem_iff
   exact q _ _ (Zil i3) (fun row h=>by
    obtain⟨l,h1,h2⟩:=i5 row h
    exact⟨l,h1,mem.mpr h2⟩) (fun l h=>i4 l (mem.mp h)) (i7.trans (Fm.app _))
theorem w_end (h8:ks.length<=8) (hr:∀ ls∈rss,R ks.length ls) (hb:bs.length<=ks.length) (hk:∀ ls∈rss,kept bs ls=true)
  (q:∀ ls H',Up ks.length 0 ls->(∀ row∈rss,∃ l∈row,l∈ls)->(∀ l∈ls,Zan l<=bs.length/\rig bs l=true)->Fm [] H H'->Q (.tup [.tup [.str "term",Zaz ls],Zaz ls]) H'):wE (Zdh (Zal ks rss) [.tup [.str "kept"],Zaq bs] H) Q:=by
 refine Ydv rfl ?_
 show wS (Zbu [some (.tup [.str "kept"]),some (Zaq bs),some (Zal ks rss),none] H) _
 unfold Zbu
 fail "g"
 refine Zx8 h8 hr hb hk fun ls H1 u h1 h2 x1=>?_
 fail "g"
 exact q ls H1 u h1 h2 x1
end
variable {σ:SD} {H:HD} {Q:D->HD->Prop}
section
variable {ks:List D} {rss:List (List Int)} {L:List (D×List Int)} {pp pc:Nat} {bs:List Bool}
def Put (ks:List D) (rss:List (List Int)) (pp pc:Nat) (bs:List Bool) (n:Nat) (F:HD->Option (D×HD)):Prop :=
 ∀ (L:List (D×List Int)) (H:HD) (Q:D->HD->Prop),H[pp]? = some (.lst (L.map prD))->H[pc]? = some (.clo "term_paper" "claim" (Zal ks rss))->L.length+eS ks*2 ^ (n+1)<=5000->Rp ks rss L ->
  (∀ (M:List (D×List Int)) (e:D) (r:List Int) (H':HD),H'[pp]? = some (.lst ((L++M).map prD))->Rp ks rss (L++M)->M.getLast? = some (e,r)->Lt ks bs r->M.length+eS ks<=eS ks*2 ^ (n+1)->Fm [pp] H H'->Q .non H')->wE (F H) Q
theorem Zqw {M:List (D×List Int)} {e:D} {r:List Int} (h:M.getLast? = some (e,r)):atI ((L++M).map prD) (-1)=some (.tup [e,Zaz r]):=by
 obtain⟨a,rfl⟩:=Wbg.mp h
 rw[<- Wae,Waj]
 exact Zlj _ _
theorem Zza {M N:List (D×List Int)} {e:D} {r:List Int} (h:M.getLast? = some (e,r)):atI ((L++M++N).map prD) (((L++M).length - 1:Nat):Int)=some (.tup [e,Zaz r]):=by
 obtain⟨a,rfl⟩:=Wbg.mp h
 have e1:(L++(a++[(e,r)])).length - 1=(L++a).length:=by simp
 rw[e1]
 refine Zcj ?_
 rw[<- Wae,Wae _ _ N,Xr,Xu (Xd _),Weq]
 rfl
theorem Zuy {M:List (D×List Int)} {e:D} {r:List Int} (h:M.getLast? = some (e,r)):(((L++M).map prD).length:Int) - 1=(((L++M).length - 1:Nat):Int):=by
 obtain⟨a,rfl⟩:=Wbg.mp h
 simp
 omega
theorem Zth {n:Int} {r:List Int} {P:Bool->HD->Prop} (h6:(σ[6]?).join=some (.int n)) (h12:(σ[12]?).join=some (Zaz r)) (q:P (decide (n∉r /\ -n∉r)) H):wT (tAn (tOf (eOp niD (Zac 6) (Zac 12))) (tOf (eOp niD (eUn Zka (Zac 6)) (Zac 12))) σ H) P:=by
 refine w_an (w_tof (w_op (w_var h6 (w_var h12 (Zom (w_bl ?_))))))
 by_cases z:n∈r
 ·rw[decide_eq_true z]
  rw[decide_eq_false (fun y=>y.1 z)] at q
  exact w_bf q
 ·rw[decide_eq_false z]
  refine w_bt (w_tof (w_op (w_un (w_var h6 (w_neg (w_var h12 (Zom (w_bl ?_))))))))
  by_cases y : -n∈r
  ·rw[decide_eq_true y]
   rw[decide_eq_false (fun v=>v.2 y)] at q
   exact q
  ·rw[decide_eq_false y]
   rw[decide_eq_true ⟨z,y⟩] at q
   exact q
theorem Zyi {M N:List (D×List Int)} {e:D} {r:List Int} (h:M.getLast? = some (e,r)):∃ hi:(L++M).length - 1<((L++M++N).map (·.2)).length,((L++M++N).map (·.2))[(L++M).length - 1]=r:=by
 obtain⟨a,rfl⟩:=Wbg.mp h
 refine⟨by simp,?_⟩
 have e1:((L++(a++[(e,r)])).length) - 1=(L++a).length:=by simp
 rw[List.getElem_map]
 refine congrArg Prod.snd (?_:_=(e,r))
 rw[List.getElem_eq_iff,e1,<- Wae,Wae _ _ N,Xu (Xd _),Weq]
 rfl
theorem Zvl {F1 F2:FF} {x y:D} (c:CR ks rss) (hpc:pp≠pc) (h0:bs.length<ks.length) (h1:kS (ks.getD bs.length .non)=false)
  (k1:Put ks rss pp pc (bs++[false]) (nS ks (bs.length+1)) (F1 [.tup ks,.str "some",.ref pc,.ref pp,x,Zaq (bs++[false])]))
  (k2:Put ks rss pp pc (bs++[true]) (nS ks (bs.length+1)) (F1 [.tup ks,.str "some",.ref pc,.ref pp,y,Zaq (bs++[true])])) :
  Put ks rss pp pc bs (nS ks bs.length) (Za4 6 13 (Zaw F1 F2) [.tup ks,.str "some",.ref pc,.ref pp,.tup [.str "each",x,y],Zaq bs]):=by
 intro L H Q g gc hl rt q
 have h8:=c.h8
 have en:=Ybw h0 h1
 rw[en,Wet] at hl q
 generalize hP:eS ks*2 ^ (nS ks (bs.length+1)+1)=P at *
 rw[<- Nat.mul_assoc,hP] at hl q
 refine Za6 rfl ?_
 show wS (Zaw F1 F2 [some (.tup ks),some (.str "some"),some (.ref pc),some (.ref pp),some (.tup [.str "each",x,y]),some (Zaq bs),none,none,none,none,none,none,none] H) _
 unfold Zaw
 fail "g"
 refine Yaj ?_
 rw[k_TRUTHS]
 fail "g"
 refine w_sllo (k:=1) ?_
 fail "g"
 refine⟨_,_,_,_,rfl,rfl,rfl,?_⟩
 have lp:=(Xc.mp g).1
 have lc:=(Xc.mp gc).1
 have ea:Zan ((bs.length:Int)+1)=(bs.length:Int)+1:=Zg8 _
 have X0:Fm [pp] H (H++[.dci []]):=Fm.app _
 refine Zfl Ze8 ?_
 fail "g"
 refine k1 L _ _ (appL g) (appL gc) (by omega) rt fun M1 e1 r1 H1 g1 rt1 la1 lt1 lm1 x1=>?_
 rw[hP] at lm1
 have gc1:=x1.keep (by simp; omega) (appL gc) (fun _ e=>by cases e)
 have gd1:=x1.dci (m:=H.length) (by simp; omega) last
 have X1:=X0.trans x1
 fail "g"
 refine w_ixR g1 (Zqw la1) ?_
 fail "g"
 refine w_if (Zth rfl rfl ?_)
 by_cases m1:(bs.length:Int)+1∉r1 /\ -((bs.length:Int)+1)∉r1
 ·rw[decide_eq_true m1]
  fail "g"
  exact q M1 e1 r1 H1 g1 rt1 la1 (lt1.none m1.1 m1.2) (by omega) X1
 rw[decide_eq_false m1]
 have m1':(bs.length:Int)+1∈r1 \/ -((bs.length:Int)+1)∈r1:=by
  by_cases z:(bs.length:Int)+1∈r1
  ·exact .inl z
  ·exact .inr (Uw fun y=>m1 ⟨z,y⟩)
 have l1:=lt1.some m1'
 rw[if_neg (by simp)] at l1
 have at1':atI (r1.map D.int) (-1)=some (.int (-((bs.length:Int)+1))):=by
  obtain⟨a,rfl⟩:=Wbg.mp l1
  rw[Waj]; exact Zlj _ _
 fail "g"
 rw[Zuy la1]
 refine w_ixT at1' ?_
 fail "g"
 refine Zpz gd1 (by simp) ?_
 fail "g"
 have g1':=Zrc (u:=DO.dci (Zma [] (-((bs.length:Int)+1)) (.int (((L++M1).length - 1:Nat):Int)))) (show H.length≠pp by omega) g1
 have gc1':=Zrc (u:=DO.dci (Zma [] (-((bs.length:Int)+1)) (.int (((L++M1).length - 1:Nat):Int)))) (show H.length≠pc by omega) gc1
 have gd1':=Zhu (o:=DO.dci (Zma [] (-((bs.length:Int)+1)) (.int (((L++M1).length - 1:Nat):Int)))) gd1
 have X1':Fm [pp] H (H1.set H.length (DO.dci (Zma [] (-((bs.length:Int)+1)) (.int (((L++M1).length - 1:Nat):Int))))):=X1.new (Fm.set (S:=[H.length]) (by simp)) (fun q hq _=>by simp at hq; omega)
 generalize H1.set H.length (DO.dci (Zma [] (-((bs.length:Int)+1)) (.int (((L++M1).length - 1:Nat):Int))))=H2 at g1' gc1' gd1' X1' ⊢
 refine Zfl Ze8 ?_
 fail "g"
 refine k2 (L++M1) _ _ g1' gc1' (by rw[Xq]; omega) rt1 fun M2 e2 r2 H3 g3 rt3 la2 lt2 lm2 x3=>?_
 rw[hP] at lm2
 rw[Wae] at rt3
 have gd3:=x3.dci (by simp; omega) gd1'
 have gc3:=x3.keep (by simp; omega) gc1' (fun _ e=>by cases e)
 have X3:=X1'.trans x3
 fail "g"
 refine w_ixR g3 (Zqw la2) ?_
 fail "g"
 refine w_if (Zth rfl rfl ?_)
 by_cases m2:(bs.length:Int)+1∉r2 /\ -((bs.length:Int)+1)∉r2
 ·rw[decide_eq_true m2]
  fail "g"
  exact q (M1++M2) e2 r2 H3 (by rw[<- Wae]; exact g3) rt3 (by rw[Wcr,la2]; rfl) (lt2.none m2.1 m2.2) (by rw[Xq]; omega) X3
 rw[decide_eq_false m2]
 have m2':(bs.length:Int)+1∈r2 \/ -((bs.length:Int)+1)∈r2:=by
  by_cases z:(bs.length:Int)+1∈r2
  ·exact .inl z
  ·exact .inr (Uw fun y=>m2 ⟨z,y⟩)
 have l2:=lt2.some m2'
 rw[if_pos rfl] at l2
 have at2':atI (r2.map D.int) (-1)=some (.int ((bs.length:Int)+1)):=by
  obtain⟨a,rfl⟩:=Wbg.mp l2
  rw[Waj]; exact Zlj _ _
 fail "g"
 rw[Zuy la2]
 refine w_ixT at2' ?_
 fail "g"
 refine Zpz gd3 (by simp[Zma]) ?_
 have nn:¬ (-((bs.length:Int)+1)=(bs.length:Int)+1):=by omega
 have ip:Zma (Zma [] (-((bs.length:Int)+1)) (.int (((L++M1).length - 1:Nat):Int))) ((bs.length:Int)+1) (.int (((L++M1++M2).length - 1:Nat):Int))=[(-((bs.length:Int)+1),.int (((L++M1).length - 1:Nat):Int)),((bs.length:Int)+1,.int (((L++M1++M2).length - 1:Nat):Int))]:=by
  unfold Zma
  simp[nn]
 rw[ip]
 have g4:=Zrc (u:=DO.dci [(-((bs.length:Int)+1),.int (((L++M1).length - 1:Nat):Int)),((bs.length:Int)+1,.int (((L++M1++M2).length - 1:Nat):Int))]) (show H.length≠pp by omega) g3
 have gd4:=Zhu (o:=DO.dci [(-((bs.length:Int)+1),.int (((L++M1).length - 1:Nat):Int)),((bs.length:Int)+1,.int (((L++M1++M2).length - 1:Nat):Int))]) gd3
 have X4:Fm [pp] H (H3.set H.length (DO.dci [(-((bs.length:Int)+1),.int (((L++M1).length - 1:Nat):Int)),((bs.length:Int)+1,.int (((L++M1++M2).length - 1:Nat):Int))])):=X3.new (Fm.set (S:=[H.length]) (by simp)) (fun q hq _=>by simp at hq; omega)
 generalize H3.set H.length (DO.dci [(-((bs.length:Int)+1),.int (((L++M1).length - 1:Nat):Int)),((bs.length:Int)+1,.int (((L++M1++M2).length - 1:Nat):Int))])=H4 at g4 gd4 X4 ⊢
 have p1:=Zza (L:=L) (M:=M1) (N:=M2) la1
 have p2:=Zza (L:=L++M1) (M:=M2) (N:=[]) la2
 obtain⟨b1,w1⟩:=Zyi (L:=L) (M:=M1) (N:=M2) la1
 obtain⟨b2,w2⟩:=Zyi (L:=L++M1) (M:=M2) (N:=[]) la2
 rw[Wab] at p2
 simp only[Wab] at b2 w2
 fail "g"
 refine Zn5 Ze8 ?_
 fail "g"
 refine Zyq gd4 (v:=.int (((L++M1++M2).length - 1:Nat):Int)) (by unfold Zic; rw[Wch (by simpa using nn)]; simp) ?_
 fail "g"
 refine Zyq gd4 (v:=.int (((L++M1).length - 1:Nat):Int)) (by simp[Zic]) ?_
 fail "g"
 refine w_ixR g4 p2 ?_
 fail "g"
 refine w_ixR g4 p1 ?_
 fail "g"
 obtain⟨x',ej,ux,wx⟩:=Lt.join lt2 lt1 l2 l1
 refine Zpv (Zlw (by omega) lt2.up).1 (Zlw (by omega) lt1.up).1 h8 fun H5 x5=>?_
 rw[ej]
 fail "g"
 have own:Zd1 ks ((bs.length:Int)+1)=false:=by rw[Zzt,h1]
 rw[<- Wae] at rt3
 refine Zmz c (x5.lst (by simp) g4) (by simp only[Xq]; omega) rt3 (.joined ((L++M1++M2).length - 1) ((L++M1).length - 1) _ x' b2 b1 ⟨by omega,by omega⟩ own (by rw[w1,w2]; exact ej)) (Zlw (by omega) ux).1 fun M3 e3 H6 g6 rt6 la6 lm6 x6=>?_
 fail "g"
 refine q (M1++M2++M3) e3 (Zbj ks x') H6 (by rw[<- Wae,<- Wae]; exact g6) (by rw[<- Wae,<- Wae]; exact rt6) (by rw[Wcr,la6]; rfl) (Lt.of ux fun l hl=>wx l ((Zg5 ks x').subset hl)) (by simp only[Xq]; omega) ((X4.trans (x5.sub (by simp))).trans x6)
theorem Yei (c:CR ks rss) (hu:∀ ls∈rss,Up ks.length 0 ls) (hpc:pp≠pc) {bs:List Bool} {t:D} (pl:PlanD ks rss true bs t):∀ (f:Nat),2*(ks.length - bs.length)+1<=f->bs.length<=ks.length->Put ks rss pp pc bs (nS ks bs.length) ((Zei 6 7 6 13 Zau Zaw f).1 [.tup ks,.str "some",.ref pc,.ref pp,t,Zaq bs]):=by
 have h8:=c.h8
 have e12:=Zys ks
 induction pl with
 | lost h _ _ _=>cases h
 | @kept bs h0 h1 =>
  intro f hf hb L H Q g gc hl rt q
  have p2:2<=2 ^ (nS ks bs.length+1):=by rw[Wet]; have:=Nat.one_le_two_pow (n:=nS ks bs.length); omega
  have p3:eS ks*2<=eS ks*2 ^ (nS ks bs.length+1):=Nat.mul_le_mul_left _ p2
  obtain⟨f,rfl⟩:∃ f',f=f'+1:=⟨f - 1,by omega⟩
  rw[Zei]
  dsimp only
  generalize (Zei 6 7 6 13 Zau Zaw f).1=F1
  generalize (Zei 6 7 6 13 Zau Zaw f).2=F2
  refine Za6 rfl ?_
  show wS (Zau _ _ [some (.tup ks),some (.str "some"),some (.ref pc),some (.ref pp),some (.tup [.str "kept"]),some (Zaq bs),none] H) _
  unfold Zau
  fail "i"
  (refine WP.w_if ?_; fail "g")
  refine Yby rfl gc ?_
  fail "g"
  refine w_end h8 c.hr hb h1 fun ls H1 u com rg x1=>?_
  fail "g"
  refine Zmz c (x1.lst (by simp) g) (by omega) rt (.row ls u com) (Zlw (by omega) u).1 fun M e H2 g2 r1 la lm x2=>?_
  fail "g"
  exact q M e _ H2 g2 r1 la (Lt.leaf u rg) (by omega) ((x1.sub (by simp)).trans x2)
 | @pick bs t x h0 h1 h2 ih =>
  intro f hf hb L H Q g gc hl rt q
  have en:=Ycs h0 h1
  obtain⟨f,rfl⟩:∃ f',f=f'+1:=⟨f - 1,by omega⟩
  have lb:(bs++[t]).length=bs.length+1:=by simp
  have k:=ih f (by rw[lb]; omega) (by omega)
  rw[Zei]
  dsimp only
  generalize (Zei 6 7 6 13 Zau Zaw f).1=F1 at k ⊢
  generalize (Zei 6 7 6 13 Zau Zaw f).2=F2
  refine Za6 rfl ?_
  show wS (Zau _ _ [some (.tup ks),some (.str "some"),some (.ref pc),some (.ref pp),some (.tup [.str "pick",.bl t,x]),some (Zaq bs),none] H) _
  unfold Zau
  fail "i"
  refine k L H _ g gc (by rw[lb,<- en]; exact hl) rt fun M e r H1 g1 r1 la lt lm x1=>?_
  fail "g"
  rw[lb,<- en] at lm
  exact q M e r H1 g1 r1 la (lt.pick h1) lm x1
 | @each bs x y h0 h1 h2 h3 ih1 ih2 =>
  intro f hf hb L H Q g gc hl rt q
  have lb:∀ t:Bool,(bs++[t]).length=bs.length+1:=fun t=>by simp
  obtain⟨f,rfl⟩:∃ f',f=f'+2:=⟨f - 2,by omega⟩
  have k1:=ih1 f (by rw[lb]; omega) (by rw[lb]; omega)
  have k2:=ih2 f (by rw[lb]; omega) (by rw[lb]; omega)
  rw[lb] at k1 k2
  have k3:=Zvl (F2:=(Zei 6 7 6 13 Zau Zaw f).2) c hpc h0 (by rw[h1]; rfl) k1 k2
  have e3:(Zei 6 7 6 13 Zau Zaw (f+1)).2=Za4 6 13 (Zaw (Zei 6 7 6 13 Zau Zaw f).1 (Zei 6 7 6 13 Zau Zaw f).2):=by rw[Zei]
  rw[<- e3] at k3
  rw[Zei]
  dsimp only
  generalize (Zei 6 7 6 13 Zau Zaw (f+1)).1=F1
  generalize (Zei 6 7 6 13 Zau Zaw (f+1)).2=F2 at k3 ⊢
  refine Za6 rfl ?_
  show wS (Zau _ _ [some (.tup ks),some (.str "some"),some (.ref pc),some (.ref pp),some (.tup [.str "each",x,y]),some (Zaq bs),none] H) _
  unfold Zau
  fail "i"
  (refine WP.w_if ?_; fail "g")
  refine k3 L H _ g gc hl rt fun M e r H1 g1 r1 la lt lm x1=>?_
  fail "g"
  exact q M e r H1 g1 r1 la lt lm x1
theorem Zuk {own:Zgy} (ho:Zcb own H):∀ (L:List (D×List Int)) {R:List D->HD->Prop},R (L.map (·.1)) H->wA (Zeq own [] Zsz (Zac 0) (L.map prD) H) R
 | [],R,q=>⟨_,_,by rw[Wdt,Zeq,if_pos ho]; rfl,q⟩
 | d::L,R,q=>by
  obtain⟨ds,H1,e,q⟩:=Zuk ho L (R:=fun ds H1=>R (d.1::ds) H1) q
  refine⟨d.1::ds,H1,?_,q⟩
  rw[Xl,Zeq]
  simp only[prD,two2,Zb]
  rw[if_pos ho]
  show (Option.bind (some (true,H)) _)=_
  simp only[Zb,if_pos]
  show (Option.bind (some (d.1,H)) _)=_
  simp only[Zb]
  rw[e]
  rfl
theorem w_lc2 {it:ItF} {ci:List Nat} {tt:TF} {te:EF} {σ:SD} (h:wI (it σ H) fun xs own H1=>wA (Zeq own (Zuz ci σ) tt te xs H1) fun ds H2=>ds.length<=1000000/\Q (.ref H2.length) (H2++[.lst ds])):wE (Yez it ci tt te σ H) Q:=by
 obtain⟨xs,own,H1,e1,ds,H2,e2,hl,q⟩:=h
 refine⟨_,_,?_,q⟩
 unfold Yez
 rw[e1]
 simp only[Zb]
 rw[e2]
 simp only[Zb,mkL]
 rw[if_pos (Zfm hl)]
theorem Zqj (h8:ks.length<=8):eS ks*2 ^ (nS ks 0+1)<=512:=by
 unfold eS nS
 rw[List.drop_zero]
 have l1:=Wai (fun d => !kS d) ks
 split
 ·rw[Nat.one_mul]
  exact Wag (Wbz (by omega) (show _<=9 by omega)) (by decide)
 ·rename_i z
  have:(ks.filter fun d => !kS d).length≠ks.length:=fun e=>z (Xs.mpr fun x hx=>(List.length_filter_eq_length_iff.mp e) x hx)
  have:=Wbz (show 0<2 by omega) (show (ks.filter fun d => !kS d).length+1<=8 by omega)
  omega
theorem Ztn (c:CR ks rss) (hu:∀ ls∈rss,Up ks.length 0 ls) (hw:W ks rss ks.length []=true) (gc:H[pc]? = some (.clo "term_paper" "claim" (Zal ks rss)))
  (q:∀ ds p H',mok ks rss [] ds=true->(mad ks rss [] ds).getLast? = some []->ds.length+eS ks<=eS ks*2 ^ (nS ks 0+1)->H'[p]? = some (.lst ds)->H.length<=p->Fm [] H H'->Q (.ref p) H'):wE (Zov [Zal ks rss,.str "some",.ref pc] H) Q:=by
 have h8:=c.h8
 refine Za6 rfl ?_
 show wS (Zjp [some (Zal ks rss),some (.str "some"),some (.ref pc),none,none] H) _
 unfold Zjp
 fail "g"
 refine Yfc ⟨c.hk,hu,c.hl,c.h8⟩ fun t H1 pt x1=>?_
 rw[hw] at pt ⊢
 have gc1:=x1.keep (by simp) gc (fun _ e=>by cases e)
 have lc:=(Xc.mp gc1).1
 fail "i"
 refine⟨.bl false,H1,rfl,?_⟩
 fail "g"
 have bd:=Zqj h8
 refine Yei c hu (by omega) pt 22 (by simp; omega) (by simp) [] _ _ last (appL gc1) (by simp; omega) ⟨rfl,rfl⟩ fun M e r H2 g2 r2 la lt lm x2=>?_
 rw[Wcz] at g2 r2
 have er:r=[]:=by
  cases r with
  | nil=>rfl
  | cons l r =>
   have h1:=(lt.wr l (by simp)).1
   have h2:=(Zlw (by omega) lt.up).1.rg l (by simp)
   simp at h1
   omega
 subst er
 fail "g"
 refine w_lc2 ?_
 fail "g"
 refine Zuk (Zot g2) M ?_
 have lm':M.length+eS ks<=eS ks*2 ^ (nS ks 0+1):=lm
 refine⟨by rw[Xo]; omega,?_⟩
 fail "g"
 refine q (M.map (·.1)) _ _ r2.ok ?_ (by rw[Xo]; exact lm) last ?_ ?_
 ·rw[r2.eq,List.getLast?_map,la]; rfl
 ·have a2:=x2.len; have a1:=x1.len; rw[Xq] at a2; omega
 ·exact((x1.trans (Fm.app _)).new x2 (fun q hq _=>by simp at hq; have:=x1.len; omega)).trans (Fm.app _)
theorem Zr6 {b:Bool} (c:CR ks rss) (hu:∀ ls∈rss,Up ks.length 0 ls) (hw:W ks rss ks.length []=true) (g0:H[0]? = some (.tab "term_paper" b))
  (q:∀ ds p H',mok ks rss [] ds=true->(mad ks rss [] ds).getLast? = some []->ds.length+eS ks<=eS ks*2 ^ (nS ks 0+1)->H'[p]? = some (.lst ds)->H'[0]? = some (.tab "term_paper" true)->H.length<=p->Fm [0] H H'->Q (.ref p) H'):wE (Zfp [Zal ks rss] H) Q:=by
 refine Za6 rfl ?_
 show wS (Zc4 [some (Zal ks rss),none] H) _
 unfold Zc4
 refine w_seq ⟨.nx,[some (Zal ks rss),some (.ref H.length)],H.set 0 (.tab "term_paper" true)++[.clo "term_paper" "claim" (Zal ks rss)],?_,?_⟩
 ·unfold sDef
  simp[g0]
 fail "g"
 have gc:(H.set 0 (.tab "term_paper" true)++[.clo "term_paper" "claim" (Zal ks rss)])[H.length]? = some (.clo "term_paper" "claim" (Zal ks rss)):=by
  have:=last (H:=H.set 0 (.tab "term_paper" true)) (o:=.clo "term_paper" "claim" (Zal ks rss))
  rw[List.length_set] at this
  exact this
 refine Ztn c hu hw gc fun ds p H1 ok la ln g1 l1 x1=>?_
 fail "g"
 have X:Fm [0] H (H.set 0 (.tab "term_paper" true)++[.clo "term_paper" "claim" (Zal ks rss)]):=(Fm.set (by simp)).trans (Fm.app _)
 exact q ds p H1 ok la ln g1 (x1.keep (by simp) (appL (Zhu g0)) fun _ e=>by cases e) (by have:=X.len; omega) (X.trans (x1.sub (by simp)))
end
variable {σ:SD} {H:HD} {Q:D->HD->Prop}
section
variable {ks:List D} {rss:List (List Int)}
theorem Zwe (ks:List D):∀ (j:Nat) (bs:List Bool),W ks [] j bs=true
 | 0,bs=>rfl
 | j+1,bs=>by
  unfold W
  rw[Zwe ks j,Zwe ks j]
  cases kS (ks.getD bs.length .non)<;>rfl
nonrec def swD (d:D):D:=Zbx (!kS d)
theorem CR.of {ks':List D} {rss':List (List Int)} (hk:∀ d∈ks',Zcc d) (h8:ks'.length<=8) (hu:∀ ls∈rss',Up ks'.length 0 ls) (hl:rss'.length<=1000):CR ks' rss':=⟨hk,h8,fun ls h=>(Zlw (by omega) (hu ls h)).1,hl⟩
theorem w_won (c:CR ks rss) (hu:∀ ls∈rss,Up ks.length 0 ls) (hl:rss.length<=100)
  (q:∀ ks' rss' H',CR ks' rss'->(∀ ls∈rss',Up ks'.length 0 ls)->ks'.length=ks.length->W ks' rss' ks'.length []=true->Fm [] H H'->Q (Zal ks' rss') H'):wE (Zju [Zal ks rss] H) Q:=by
 have h8:=c.h8
 refine Za6 rfl ?_
 show wS (Zfv [some (.tup [.tup ks,.tup (rss.map Zaz)]),none,none,none,none] H) _
 unfold Zfv
 fail "g"
 refine Zkt swD (fun H'=>Fm [] H H') (fun _ _=>Ze8) _ (fun x hx H1 j=>?_) _ Fm.refl fun H1 j=>?_
 ·have kx:=Zix (c.hk x hx)
  unfold swD
  generalize kS x=w at kx ⊢
  subst kx
  fail "g"
  refine Zhf (b:=false) ?_
  fail "g"
  refine w_ixR last (d:=Zbx (!w)) (by cases w; exact at1 _ _; exact at0 _ _) ?_
  exact⟨rfl,j.trans (Fm.app _)⟩
 refine⟨by simp; omega,?_⟩
 fail "g"
 have hrl:=c.hl
 have hk2:∀ d∈ks.map swD,Zcc d:=fun d hd=>by
  obtain⟨x,_,rfl⟩:=Xn.mp hd
  unfold swD Zbx
  split
  ·exact .inr rfl
  ·exact .inl rfl
 have lsw:(ks.map swD).length=ks.length:=by simp
 have J:=j.trans (Fm.app (S:=[]) [DO.lst (ks.map swD)])
 generalize H1++[DO.lst (ks.map swD)]=H3 at J ⊢
 generalize ks.map swD=sw at *
 have e2:((rss.map Zaz).length:Int) / 2=((rss.length / 2:Nat):Int):=by rw[Xo]; omega
 have u1:∀ ls∈rss.take (rss.length / 2),Up ks.length 0 ls:=fun ls h=>hu ls (List.mem_of_mem_take h)
 have u2:∀ ls∈rss.drop (rss.length / 2),Up ks.length 0 ls:=fun ls h=>hu ls (Weu h)
 rw[e2]
 refine w_slhi ?_
 fail "g"
 rw[e2]
 refine w_sllo ?_
 fail "g"
 rw[<- Wfe,<- Wcp]
 have l1:(rss.take (rss.length / 2)).length<=1000:=by rw[Wat]; omega
 have l2:(rss.drop (rss.length / 2)).length<=1000:=by rw[Wdj]; omega
 generalize rss.take (rss.length / 2)=ra at *
 generalize rss.drop (rss.length / 2)=rb at *
 refine Zkr (fun σ H'=>Fm [] H H'/\H'[H3.length]? = some (.lst [Zal ks rss,Zal sw rss,Zal ks ra,Zal sw rb])/\∃ z3,σ=[some (Zal ks rss),some (.tup sw),z3,some (.tup ks),some (.tup (rss.map Zaz))]) (fun _ _ i=>Zot i.2.1) _ (fun d hd σ H1 zz=>?_) _ _ ⟨J.trans (Fm.app _),last,_,rfl⟩ fun σ H1 zz=>?_
 ·obtain⟨i1,i2,z3,i3⟩:=zz
  subst i3
  obtain⟨ks',rss',rfl,cr,cu,cl⟩:∃ ks' rss',d=Zal ks' rss'/\CR ks' rss'/\(∀ ls∈rss',Up ks'.length 0 ls)/\ks'.length=ks.length:=by
   have v1:∀ ls∈rss,Up sw.length 0 ls:=by rw[lsw]; exact hu
   have v2:∀ ls∈rb,Up sw.length 0 ls:=by rw[lsw]; exact u2
   simp only[Xj,Wbq,or_false] at hd
   rcases hd with rfl | rfl | rfl | rfl
   ·exact⟨_,_,rfl,c,hu,rfl⟩
   ·exact⟨_,_,rfl,CR.of hk2 (by omega) v1 hrl,v1,lsw⟩
   ·exact⟨_,_,rfl,CR.of c.hk h8 u1 l1,u1,rfl⟩
   ·exact⟨_,_,rfl,CR.of hk2 (by omega) v2 l2,v2,lsw⟩
  refine w_gnm ?_
  fail "i"
  refine Zup cr fun p dn H4 g hall l x4=>?_
  fail "g"
  refine Zwh (bs:=[]) g (hall [] (Wbm _)) ?_
  fail "g"
  show wE (eqD (Zbx (W ks' rss' ks'.length [])) (.str "some") H4) _
  refine Zy3 ?_
  fail "g"
  cases ew:W ks' rss' ks'.length [] with
  | false=>fail "g"; exact⟨i1.trans x4,x4.lst (by simp) i2,_,rfl⟩
  | true=>fail "g"; exact q ks' rss' H4 cr cu cl ew (i1.trans x4)
 ·obtain⟨i1,i2,z3,i3⟩:=zz
  subst i3
  fail "g"
  exact q ks [] H1 (CR.of c.hk h8 (by simp) (by simp)) (by simp) rfl (Zwe ks _ _) i1
end
variable {σ:SD} {H:HD} {Q:D->HD->Prop}
theorem Ztg {sd:D} {most:Nat} (at':∀ (H:HD) (k:Int) (Q:D->HD->Prop),0<=k->k<=1000->(∀ c,Q (.int c) H)->wE (Zd3 [sd,.int k] H) Q) (hm:2<=most/\most<=8) (q:∀ ks rss H',Cl ks rss->ks.length<=most->rss.length<=20->Fm [] H H'->Q (Zal ks rss) H'):wE (Zgq [sd,.int most] H) Q:=by
 refine Za6 rfl ?_
 show wS (Zdz [some sd,some (.int most),none,none,none,none,none] H) _
 unfold Zdz
 fail "g"
 refine at' _ _ _ (by omega) (by omega) fun c=>?_
 fail "g"
 refine Zim (many:=14) (by omega) fun ds pd H1 l1 d1 g1 n1 x1=>?_
 fail "g"
 refine Zdg g1 d1 (by omega) (by omega) fun a a0 a1=>?_
 fail "g"
 refine w_mod (by omega) ?_
 fail "g"
 refine Zdg g1 d1 (by omega) (by omega) fun a' a0' a1'=>?_
 fail "g"
 refine Zdg (appL g1) d1 (by omega) (by omega) fun b b0 b1=>?_
 fail "g"
 have m3:b % 3=0\/b % 3=1\/b % 3=2:=by omega
 obtain⟨N,hN,eN⟩:∃ N:Nat,N<=most/\atI [D.int (a % ((most:Int)+1)),.int ((most:Int) - a' % 3),.int (most:Int)] (b % 3)=some (.int N):=by
  have e1:=Wbf a (show (most:Int)+1≠0 by omega)
  have e2:=Was a (show 0<(most:Int)+1 by omega)
  rcases m3 with z | z | z<;>rw[z]
  ·refine⟨(a % ((most:Int)+1)).toNat,by omega,?_⟩
   rw[Wcf e1]; rfl
  ·refine⟨((most:Int) - a' % 3).toNat,by omega,?_⟩
   rw[Wcf (by omega)]; rfl
  ·exact⟨most,Xd _,rfl⟩
 refine w_ixR last eN ?_
 fail "g"
 refine Zw0 (k:=2) (appL g1) ?_
 fail "g"
 rw[show (if (N:Int) > 0 then (N:Int) else 0)=(N:Int) by split<;>omega]
 rw[<- Wcp]
 refine Yar (many:=N) last (d1.drop 2) (by simp; omega) (by omega) fun ks H2 hk lk x2=>?_
 have X2:Fm [] H H2:=((x1.trans (Fm.app _)).trans (Fm.app _)).trans x2
 have g2:=x2.lst (by simp) (appL (u:=DO.lst ((ds.drop 2).map D.int)) (appL (u:=DO.lst [D.int (a % ((most:Int)+1)),.int ((most:Int) - a' % 3),.int (most:Int)]) g1))
 fail "g"
 refine Zdg g2 d1 (by omega) (by omega) fun u0 u1 u2=>?_
 fail "g"
 refine Zdg g2 d1 (by omega) (by omega) fun v0 v1 v2=>?_
 fail "g"
 refine Zdg g2 d1 (by omega) (by omega) fun y0 y1 y2=>?_
 fail "g"
 refine Zdg (appL g2) d1 (by omega) (by omega) fun e e0 e1=>?_
 fail "g"
 have m3':e % 3=0\/e % 3=1\/e % 3=2:=by omega
 obtain⟨Z,hZ,eZ⟩:∃ Z:Nat,Z<=20/\atI [D.int (u0 % 5),.int (v0 % 11),.int (5+y0 % 16)] (e % 3)=some (.int Z):=by
  rcases m3' with z | z | z<;>rw[z]
  ·refine⟨(u0 % 5).toNat,by omega,?_⟩
   rw[Wcf (by omega)]; rfl
  ·refine⟨(v0 % 11).toNat,by omega,?_⟩
   rw[Wcf (by omega)]; rfl
  ·refine⟨(5+y0 % 16).toNat,by omega,?_⟩
   rw[Wcf (by omega)]; rfl
 refine w_ixR last eZ ?_
 fail "g"
 refine⟨_,rfl,⟨by omega,by omega⟩,?_⟩
 rw[Waf]
 have Y:Fm [] H (H2++[DO.lst [D.int (u0 % 5),.int (v0 % 11),.int (5+y0 % 16)]]):=X2.trans (Fm.app _)
 refine Zuj (fun d t o H'=>∃ rss:List (List Int),o=rss.map Zaz/\rss.length=d.length/\d.length+t.length=Z/\(∀ ls∈rss,Up N 0 ls)/\(∀ x∈t,∃ i:Nat,x=.int i/\i<=100)/\True/\H'[pd]? = some (.lst (ds.map .int))/\Fm [] H H') (fun _ _ _ _ _=>Ze8) (fun d x t o H3 zz=>?_) _ [] [] _ ⟨[],rfl,rfl,by simp[Zba],by simp,fun x hx=>?_,trivial,appL g2,Y⟩ (fun d o H3 zz=>?_)
 ·obtain⟨rss,i1,i2,i3,i4,i5,i6,i7,i8⟩:=zz
  obtain⟨i,rfl,hi⟩:=i5 x (by simp)
  fail "g"
  refine at' _ _ _ (by omega) (by omega) fun cell=>?_
  fail "g"
  rw[lk]
  refine Zz7 (by omega) fun ls H4 u x4=>?_
  refine⟨rss++[ls],by rw[i1]; simp,by simp[i2],by simp at i3 ⊢; omega,fun y hy=>?_,fun y hy=>i5 y (by simp[hy]),trivial,x4.lst (by simp) i7,i8.trans x4⟩
  rcases Xm.mp hy with z | z
  ·exact i4 y z
  ·simp at z; subst z; exact u
 ·simp only[Zba,Xn,Wbk] at hx
  obtain⟨k,hk,rfl⟩:=hx
  exact⟨k,by simp,by omega⟩
 obtain⟨rss,i1,i2,i3,i4,i5,i6,i7,i8⟩:=zz
 rw[Wcz] at i1
 simp only[Wbu,Wfn] at i3
 subst i1
 refine⟨by simp; omega,?_⟩
 show wS (Zaf _ _ [some sd,some (.int most),some (.ref pd),some (.int N),some (.tup ks),some (.int Z),some (.ref H3.length)] (H3++[.lst (rss.map Zaz)])) _
 refine w_seq (Zub (fun σ H'=>∃ (rs:List (List Int)) (pr:Nat),H'[pr]? = some (.lst (rs.map Zaz))/\rs.length<=20/\(∀ ls∈rs,Up N 0 ls)/\Fm [] H H'/\σ=[some sd,some (.int most),some (.ref pd),some (.int N),some (.tup ks),some (.int Z),some (.ref pr)]) ?_ ?_)
 ·(refine WP.w_if ?_; fail "g")
  refine Zdg (appL i7) d1 (by omega) (by omega) fun r r0 r1=>?_
  fail "g"
  refine⟨fun h=>?_,fun h=>?_⟩
  ·fail "g"
   refine Zb2 (fun d=>match d with | .tup xs => !xs.isEmpty | _=>true) (fun H'=>H'=H3++[.lst (rss.map Zaz)]) (fun _ j=>by rw[j]; exact Zot last) _ (fun x hx H4 j=>?_) _ rfl fun H4 j=>?_
   ·obtain⟨ls,hls,rfl⟩:=Xn.mp hx
    subst j
    fail "g"
    refine Zxh (Fine.tup (Zbn ls)) (Fine.tup (h:=0) Fines.nil) (by omega) (by omega) ?_
    refine⟨_,rfl,?_,rfl⟩
    cases ls<;>simp[Ub,Uq,Zaz]
   ·subst j
    have ef:(rss.map Zaz).filter (fun d=>match d with | .tup xs => !xs.isEmpty | _=>true)=(rss.filter fun ls => !ls.isEmpty).map Zaz:=by
     rw[Wbn]
     congr 1
     exact Wfl fun ls _=>by cases ls<;>rfl
    rw[ef]
    have lf:=Wai (fun ls:List Int => !ls.isEmpty) rss
    refine⟨by simp; omega,?_⟩
    fail "g"
    exact⟨rfl,_,_,last,by omega,fun ls h=>i4 ls (Waa.mp h).1,(i8.trans (Fm.app _)).trans (Fm.app _),rfl⟩
  ·fail "g"
   exact⟨rfl,rss,_,last,by omega,i4,i8.trans (Fm.app _),rfl⟩
 rintro _ H4 ⟨rs,pr,g4,l4,u4,X4,rfl⟩
 fail "g"
 refine q ks rs H4 ⟨hk,fun ls h=>by rw[lk]; exact u4 ls h,by omega,by omega⟩ (by omega) l4 X4
variable {σ:SD} {H:HD} {Q:D->HD->Prop}
theorem pure_law:∀ ns:List Int,ns.length<=63->∃ Hd',Zrx [.fl (ns.map .int)] (Zfj ["term_paper"])=some (.bl true,Hd'):=by
 intro ns _
 suffices h:wE (Zrx [.fl (ns.map .int)] (Zfj ["term_paper"])) fun d _=>d=.bl true by
  obtain⟨d,H',e,rfl⟩:=h
  exact⟨H',e⟩
 have g0:(Zfj ["term_paper"])[0]? = some (.tab "term_paper" false):=rfl
 generalize Zfj ["term_paper"]=H0 at g0 ⊢
 refine Za6 rfl ?_
 show wS (Ztm [some (.fl (ns.map .int)),none,none,none,none,none,none] H0) _
 unfold Ztm
 fail "g"
 refine Ztg (most:=6) (fun H k Q h0 h1 q=>Ybg H k Q h0 h1 q) (by omega) fun ks0 rss0 H1 c0 lk lr x1=>?_
 fail "g"
 refine w_won (CR.of c0.hk c0.h8 c0.hu c0.hl) c0.hu (by omega) fun ks rss H2 c hu lk2 hw x2=>?_
 fail "g"
 refine Ybg _ _ _ (by omega) (by omega) fun cell=>?_
 fail "g"
 refine Zim (many:=40) (by omega) fun dg pd H3 l3 d3 g3 n3 x3=>?_
 fail "g"
 refine Zw0 (k:=28) g3 ?_
 rw[<- Wcp]
 have X3:=((x1.trans x2).trans x3).trans (Fm.app (S:=[]) [DO.lst ((dg.drop 28).map .int)])
 have dd:=d3.drop 28
 have ld:(dg.drop 28).length=12:=by rw[Wdj,l3]
 generalize dg.drop 28=es at *
 fail "g"
 refine Zdg last dd (by omega) (by omega) fun r r0 r1=>?_
 fail "g"
 obtain⟨mm,hmm⟩:∃ m:Nat,r % 9=m:=⟨(r % 9).toNat,by omega⟩
 rw[hmm]
 refine Zmw c (by omega) (fun H5 k Q _ h0 h1 q=>Ybg H5 k Q h0 h1 q) fun pa ah H4 g4 oka la x4=>?_
 have X4:=X3.trans x4
 have t4:=X4.keep (by simp) g0 (fun _ e=>by cases e)
 fail "g"
 refine Zr6 c hu hw t4 fun ds pt H5 ok lst ln g5 t5 l5 x5=>?_
 have bd:=Zqj c.h8
 have lds:ds.length<=512:=by omega
 have npa:pa≠0:=fun e=>by rw[e,t4] at g4; cases g4
 have g45:=x5.lst (by simpa using npa) g4
 fail "g"
 refine Yal (many:=ah.length) g5 (Zs9 ds [] ok) (by omega) fun pm H6 g6 x6=>?_
 fail "g"
 refine Zuq (x6.lst (by simp) g45) g6 (by simp; omega) ?_
 obtain⟨m1,m2⟩:=Zr7 oka ok
 have g7:=appL (u:=DO.lst (ah++ds.map (mv ah.length))) (x6.lst (by simp) g5)
 have g8:(H6++[DO.lst (ah++ds.map (mv ah.length))])[H6.length]? = some (.lst (ah++ds.map (mv ah.length))):=last
 have l8:(ah++ds.map (mv ah.length)).length<=1000:=by simp; omega
 have la8:(mad ks rss [] (ah++ds.map (mv ah.length))).getLast? = some []:=by rw[m2]; exact Zwq lst
 generalize ah++ds.map (mv ah.length)=es8 at *
 generalize H6++[DO.lst es8]=H7 at g7 g8 ⊢
 generalize H6.length=p8 at g8 ⊢
 fail "g"
 refine Zkr (fun σ H'=>Fm [] (H7++[.lst [.ref pt,.ref p8]]) H'/\∃ z5 z6,σ=[some (.fl (ns.map .int)),some (Zal ks rss),some (.ref H3.length),some (.ref pa),some (.ref pt),z5,z6]) (fun σ H' i=>Zot (i.1.lst (by simp) last)) _ (fun d hd σ H8 zz=>?_) _ _ ⟨Fm.refl,_,_,rfl⟩ fun σ H8 zz=>?_
 ·obtain⟨i1,z5,z6,i3⟩:=zz
  subst i3
  obtain⟨pp,dp,rfl,gp,okp,lap,lp⟩:∃ pp dp,d=.ref pp/\H8[pp]? = some (.lst dp)/\mok ks rss [] dp=true/\(mad ks rss [] dp).getLast? = some []/\dp.length<=1000:=by
   simp only[Xj,Wbq,or_false] at hd
   rcases hd with rfl | rfl
   ·exact⟨_,_,rfl,i1.lst (by simp) (appL g7),ok,lst,by omega⟩
   ·exact⟨_,_,rfl,i1.lst (by simp) (appL g8),m1,la8,l8⟩
  fail "g"
  refine Ybj gp ?_
  fail "i"
  refine Zxf c hu (appL gp) lp okp lap fun H9 x9=>?_
  fail "g"
  have shp:Shs' dp:=fun d hd=>by
   obtain⟨mm,y,s⟩:=Zs9 dp [] okp d hd
   exact s.shape
  obtain⟨ys,fy⟩:=shp.fines
  refine Ydx fy (by omega) (x9.lst (by simp) (appL gp)) (x9.lst (by simp) last) ?_
  fail "g"
  exact⟨(i1.trans (Fm.app _)).trans x9,_,_,rfl⟩
 ·obtain⟨i1,z5,z6,i3⟩:=zz
  subst i3
  fail "g"
  rfl
end K08
set_option maxHeartbeats 8000000
namespace K08
open PySem PySem.Spec PyProof.Rows L2 DL
nonrec def top (i:Nat):Uab:=PySem.Challenge.pw_allsome_k34_played_by_term_papers.main.body.getD i (.Pass ⟨0,0,0,0⟩)
nonrec abbrev s_is_whole:Uab:=top 2
theorem Zog:FnScope ["thing"] ["thing"] (Zad s_is_whole):=⟨rfl,rfl,rfl,by decide +kernel,rfl,by decide +kernel,by decide +kernel⟩
nonrec abbrev s_is_open:Uab:=top 3
theorem Zrz:FnScope ["literal","play"] ["literal","play"] (Zad s_is_open):=⟨rfl,rfl,rfl,by decide +kernel,rfl,by decide +kernel,by decide +kernel⟩
nonrec abbrev s_is_right:Uab:=top 4
theorem Zo9:FnScope ["literal","play"] ["literal","play"] (Zad s_is_right):=⟨rfl,rfl,rfl,by decide +kernel,rfl,by decide +kernel,by decide +kernel⟩
nonrec abbrev s_is_lost:Uab:=top 5
theorem Zkg:FnScope ["row","play","literal"] ["row","play"] (Zad s_is_lost):=⟨rfl,rfl,rfl,by decide +kernel,rfl,by decide +kernel,by decide +kernel⟩
nonrec abbrev s_first_numbers:Uab:=top 11
theorem Ze9:FnScope ["rows","told","number","row"] ["rows"] (Zad s_first_numbers):=⟨rfl,rfl,rfl,by decide +kernel,rfl,by decide +kernel,by decide +kernel⟩
nonrec abbrev s_rows_behind:Uab:=top 12
theorem Zf9:FnScope ["rows","name","truth","right","told","row","first"] ["rows","name","truth"] (Zad s_rows_behind):=⟨rfl,rfl,rfl,by decide +kernel,rfl,by decide +kernel,by decide +kernel⟩
nonrec abbrev s_other_side:Uab:=top 13
theorem Zlk:FnScope ["side"] ["side"] (Zad s_other_side):=⟨rfl,rfl,rfl,by decide +kernel,rfl,by decide +kernel,by decide +kernel⟩
nonrec abbrev s_are_of_all:Uab:=top 15
theorem Zlm:FnScope ["kinds","literals"] ["kinds","literals"] (Zad s_are_of_all):=⟨rfl,rfl,rfl,by decide +kernel,rfl,by decide +kernel,by decide +kernel⟩
nonrec abbrev s_number_of_lost:Uab:=top 16
theorem Zen:FnScope ["kinds","rows","row"] ["kinds","rows"] (Zad s_number_of_lost):=⟨rfl,rfl,rfl,by decide +kernel,rfl,by decide +kernel,by decide +kernel⟩
nonrec abbrev s_is_number_of:Uab:=top 21
theorem Zj0:FnScope ["thing","many"] ["thing","many"] (Zad s_is_number_of):=⟨rfl,rfl,rfl,by decide +kernel,rfl,by decide +kernel,by decide +kernel⟩
nonrec abbrev s_is_name_of_other:Uab:=top 22
theorem Zgh:FnScope ["kinds","side","thing"] ["kinds","side","thing"] (Zad s_is_name_of_other):=⟨rfl,rfl,rfl,by decide +kernel,rfl,by decide +kernel,by decide +kernel⟩
nonrec abbrev s_lessened:Uab:=top 23
theorem Zgt:FnScope ["kinds","side","row","stays"] ["kinds","side","row"] (Zad s_lessened):=⟨rfl,rfl,rfl,by decide +kernel,rfl,by decide +kernel,by decide +kernel⟩
nonrec abbrev s_without:Uab:=top 24
theorem Zrf:FnScope ["row","literal"] ["row","literal"] (Zad s_without):=⟨rfl,rfl,rfl,by decide +kernel,rfl,by decide +kernel,by decide +kernel⟩
nonrec abbrev s_both:Uab:=top 25
theorem Zol:FnScope ["one","other","told","literal"] ["one","other"] (Zad s_both):=⟨rfl,rfl,rfl,by decide +kernel,rfl,by decide +kernel,by decide +kernel⟩
nonrec abbrev s_joined:Uab:=top 26
theorem Zv6:FnScope ["one","other","name"] ["one","other","name"] (Zad s_joined):=⟨rfl,rfl,rfl,by decide +kernel,rfl,by decide +kernel,by decide +kernel⟩
nonrec abbrev s_made_by_less:Uab:=top 27
theorem Zip:FnScope ["kinds","side","made","step"] ["kinds","side","made","step"] (Zad s_made_by_less):=⟨rfl,rfl,rfl,by decide +kernel,rfl,by decide +kernel,by decide +kernel⟩
nonrec abbrev s_made_by_joined:Uab:=top 28
theorem Zhp:FnScope ["kinds","side","made","step"] ["kinds","side","made","step"] (Zad s_made_by_joined):=⟨rfl,rfl,rfl,by decide +kernel,rfl,by decide +kernel,by decide +kernel⟩
nonrec abbrev s_put_step:Uab:=top 31
theorem Zjn:FnScope ["kinds","side","pairs","step","row","less"] ["kinds","side","pairs","step","row"] (Zad s_put_step):=⟨rfl,rfl,rfl,by decide +kernel,rfl,by decide +kernel,by decide +kernel⟩
nonrec abbrev s_is_used_up:Uab:=top 36
theorem Zmd:FnScope ["side","row","play"] ["side","row","play"] (Zad s_is_used_up):=⟨rfl,rfl,rfl,by decide +kernel,rfl,by decide +kernel,by decide +kernel⟩
nonrec abbrev s_literal_used:Uab:=top 37
theorem Zj2:FnScope ["side","name","truth"] ["side","name","truth"] (Zad s_literal_used):=⟨rfl,rfl,rfl,by decide +kernel,rfl,by decide +kernel,by decide +kernel⟩
nonrec abbrev s_told_term:Uab:=top 38
theorem Zna:FnScope ["claim","step"] ["claim","step"] (Zad s_told_term):=⟨rfl,rfl,rfl,by decide +kernel,rfl,by decide +kernel,by decide +kernel⟩
nonrec abbrev s_made_by:Uab:=top 29
theorem Zrg:FnScope ["claim","side","first","made","step"] ["claim","side","first","made","step"] (Zad s_made_by):=⟨rfl,rfl,rfl,by decide +kernel,rfl,by decide +kernel,by decide +kernel⟩
nonrec abbrev s_all_made:Uab:=top 30
theorem Zi3:FnScope ["claim","side","first","steps","made","number","step","row"] ["claim","side","first","steps"] (Zad s_all_made):=⟨rfl,rfl,rfl,by decide +kernel,rfl,by decide +kernel,by decide +kernel⟩
nonrec abbrev s_by_paper:Uab:=top 39
theorem Zji:FnScope ["claim","side","first","steps","play","rows","name","step","row","truth"] ["claim","side","first","steps","play"] (Zad s_by_paper):=⟨rfl,rfl,rfl,by decide +kernel,rfl,by decide +kernel,by decide +kernel⟩
nonrec abbrev s_by_terms:Uab:=top 40
theorem Zpa:FnScope ["claim","steps","play"] ["claim","steps","play"] (Zad s_by_terms):=⟨rfl,rfl,rfl,by decide +kernel,rfl,by decide +kernel,by decide +kernel⟩
nonrec abbrev s_have_one_in_common:Uab:=top 42
theorem Zft:FnScope ["one","other"] ["one","other"] (Zad s_have_one_in_common):=⟨rfl,rfl,rfl,by decide +kernel,rfl,by decide +kernel,by decide +kernel⟩
nonrec abbrev s_term_of_play:Uab:=top 43
theorem Zfw:FnScope ["rows","play","told","row","right"] ["rows","play"] (Zad s_term_of_play):=⟨rfl,rfl,rfl,by decide +kernel,rfl,by decide +kernel,by decide +kernel⟩
nonrec abbrev s_law_mix:Uab:=top 46
theorem Zkx:FnScope ["cell","k","prime","one"] ["cell","k"] (Zad s_law_mix):=⟨rfl,rfl,rfl,by decide +kernel,rfl,by decide +kernel,by decide +kernel⟩
nonrec abbrev s_law_digits:Uab:=top 47
theorem Zg9:FnScope ["cell","many","found","left_over","wide","k"] ["cell","many"] (Zad s_law_digits):=⟨rfl,rfl,rfl,by decide +kernel,rfl,by decide +kernel,by decide +kernel⟩
nonrec abbrev s_law_at:Uab:=top 48
theorem Ztl:FnScope ["script","k"] ["script","k"] (Zad s_law_at):=⟨rfl,rfl,rfl,by decide +kernel,rfl,by decide +kernel,by decide +kernel⟩
nonrec abbrev s_law_kinds:Uab:=top 49
theorem Zh6:FnScope ["some","many","found","k","kind"] ["some","many"] (Zad s_law_kinds):=⟨rfl,rfl,rfl,by decide +kernel,rfl,by decide +kernel,by decide +kernel⟩
nonrec abbrev s_law_row:Uab:=top 50
theorem Zkq:FnScope ["cell","many","wide","some","found","k"] ["cell","many","wide"] (Zad s_law_row):=⟨rfl,rfl,rfl,by decide +kernel,rfl,by decide +kernel,by decide +kernel⟩
nonrec abbrev s_law_claim:Uab:=top 51
theorem Zh8:FnScope ["script","most","some","many","kinds","size","rows"] ["script","most"] (Zad s_law_claim):=⟨rfl,rfl,rfl,by decide +kernel,rfl,by decide +kernel,by decide +kernel⟩
nonrec abbrev s_law_right:Uab:=top 52
theorem Zm1:FnScope ["literal","play"] ["literal","play"] (Zad s_law_right):=⟨rfl,rfl,rfl,by decide +kernel,rfl,by decide +kernel,by decide +kernel⟩
nonrec abbrev s_law_plays:Uab:=top 53
theorem Zia:FnScope ["many","found","turn","more_plays","one"] ["many"] (Zad s_law_plays):=⟨rfl,rfl,rfl,by decide +kernel,rfl,by decide +kernel,by decide +kernel⟩
nonrec abbrev s_law_lost:Uab:=top 54
theorem Zja:FnScope ["rows","play","row"] ["rows","play"] (Zad s_law_lost):=⟨rfl,rfl,rfl,by decide +kernel,rfl,by decide +kernel,by decide +kernel⟩
nonrec abbrev s_law_winners:Uab:=top 55
theorem Zf7:FnScope ["claim","found","play","many","kinds","rows","both_v","other"] ["claim"] (Zad s_law_winners):=⟨rfl,rfl,rfl,by decide +kernel,rfl,by decide +kernel,by decide +kernel⟩
nonrec abbrev s_law_whole:Uab:=top 56
theorem Zmp:FnScope ["thing","bound"] ["thing","bound"] (Zad s_law_whole):=⟨rfl,rfl,rfl,by decide +kernel,rfl,by decide +kernel,by decide +kernel⟩
nonrec abbrev s_law_less:Uab:=top 57
theorem Zjs:FnScope ["kinds","side","row","found","k","literal","behind"] ["kinds","side","row"] (Zad s_law_less):=⟨rfl,rfl,rfl,by decide +kernel,rfl,by decide +kernel,by decide +kernel⟩
nonrec abbrev s_law_joined:Uab:=top 58
theorem Ze0:FnScope ["row","other","name","found","one"] ["row","other","name"] (Zad s_law_joined):=⟨rfl,rfl,rfl,by decide +kernel,rfl,by decide +kernel,by decide +kernel⟩
nonrec abbrev s_law_first:Uab:=top 60
theorem Zh7:FnScope ["claim","side","thing","last","literal","row"] ["claim","side","thing"] (Zad s_law_first):=⟨rfl,rfl,rfl,by decide +kernel,rfl,by decide +kernel,by decide +kernel⟩
nonrec abbrev s_law_step:Uab:=top 59
theorem Zjj:FnScope ["claim","side","made","step","names"] ["claim","side","made","step"] (Zad s_law_step):=⟨rfl,rfl,rfl,by decide +kernel,rfl,by decide +kernel,by decide +kernel⟩
nonrec abbrev s_law_term:Uab:=top 62
theorem Zjw:FnScope ["claim","play","some","found","row","here","k","truth","literal"] ["claim","play","some"] (Zad s_law_term):=⟨rfl,rfl,rfl,by decide +kernel,rfl,by decide +kernel,by decide +kernel⟩
nonrec abbrev s_law_drawn_step:Uab:=top 63
theorem Zeh:FnScope ["claim","side","made","kept","some","names","turn","i","j","name"] ["claim","side","made","kept","some"] (Zad s_law_drawn_step):=⟨rfl,rfl,rfl,by decide +kernel,rfl,by decide +kernel,by decide +kernel⟩
nonrec abbrev s_law_drawn_steps:Uab:=top 64
theorem Zd4:FnScope ["claim","side","script","at","many","steps","made","kept","k","some","step"] ["claim","side","script","at","many"] (Zad s_law_drawn_steps):=⟨rfl,rfl,rfl,by decide +kernel,rfl,by decide +kernel,by decide +kernel⟩
nonrec abbrev s_law_behind:Uab:=top 65
theorem Zeu:FnScope ["steps","many","found","step"] ["steps","many"] (Zad s_law_behind):=⟨rfl,rfl,rfl,by decide +kernel,rfl,by decide +kernel,by decide +kernel⟩
nonrec abbrev s_law_played:Uab:=top 66
theorem Zg6:FnScope ["claim","steps","plays","kind","more_plays","play","truth"] ["claim","steps"] (Zad s_law_played):=⟨rfl,rfl,rfl,by decide +kernel,rfl,by decide +kernel,by decide +kernel⟩
nonrec abbrev s_law_won:Uab:=top 67
theorem Zks:FnScope ["claim","swapped","other","kinds","rows"] ["claim"] (Zad s_law_won):=⟨rfl,rfl,rfl,by decide +kernel,rfl,by decide +kernel,by decide +kernel⟩
nonrec abbrev s_plan_behind:Uab:=top 17
theorem Zf8:FnScope ["kinds","rows","many","number"] ["kinds","rows","many"] (Zad s_plan_behind):=⟨rfl,rfl,rfl,by decide +kernel,rfl,by decide +kernel,by decide +kernel⟩
nonrec abbrev s_plan_by_picks:Uab:=top 18
theorem Zbt:FnScope ["kinds","rows","many","who","trees","truth","told"] ["kinds","rows","many"] (Zad s_plan_by_picks):=⟨rfl,rfl,rfl,by decide +kernel,rfl,by decide +kernel,by decide +kernel⟩
nonrec abbrev s_plan:Uab:=top 19
theorem Ybm:FnScope ["claim"] ["claim"] (Zad s_plan):=⟨rfl,rfl,rfl,by decide +kernel,rfl,by decide +kernel,by decide +kernel⟩
nonrec abbrev s_put_tree:Uab:=top 32
theorem Zi0:FnScope ["kinds","side","end","pairs","tree","play","told"] ["kinds","side","end","pairs","tree","play"] (Zad s_put_tree):=⟨rfl,rfl,rfl,by decide +kernel,rfl,by decide +kernel,by decide +kernel⟩
nonrec abbrev s_put_each:Uab:=top 33
theorem Zb1:FnScope ["kinds","side","end","pairs","tree","play","name","numbers","one","other","truth","branch","row"] ["kinds","side","end","pairs","tree","play"] (Zad s_put_each):=⟨rfl,rfl,rfl,by decide +kernel,rfl,by decide +kernel,by decide +kernel⟩
nonrec abbrev s_paper:Uab:=top 34
theorem Zll:FnScope ["claim","side","end","told","pairs"] ["claim","side","end"] (Zad s_paper):=⟨rfl,rfl,rfl,by decide +kernel,rfl,by decide +kernel,by decide +kernel⟩
nonrec abbrev s_term_paper:Uab:=top 44
theorem Zha:FnScope ["claim","end"] ["claim"] (Zad s_term_paper):=⟨rfl,rfl,rfl,by decide +kernel,rfl,by decide +kernel,by decide +kernel⟩
nonrec abbrev s_law:Uab:=top 68
theorem Zzr:FnScope ["script","claim","some","ahead","told","steps","stays"] ["script"] (Zad s_law):=⟨rfl,rfl,rfl,by decide +kernel,rfl,by decide +kernel,by decide +kernel⟩
nonrec abbrev Ze4:Uab:=(Za8 s_term_paper).getD 0 (.Pass ⟨0,0,0,0⟩)
theorem Zef:ClScope ["tree","play","claim","term"] ["tree","play"] "claim" (Zad Ze4):=⟨rfl,rfl,rfl,by decide +kernel,rfl,by decide +kernel,by decide +kernel,rfl,by decide +kernel⟩
structure Top (K:Xb) (mg:Str->Option Vb):Prop where
 t_is_whole:Tf K mg "is_whole" K08.s_is_whole
 t_is_open:Tf K mg "is_open" K08.s_is_open
 t_is_right:Tf K mg "is_right" K08.s_is_right
 t_is_lost:Tf K mg "is_lost" K08.s_is_lost
 t_first_numbers:Tf K mg "first_numbers" K08.s_first_numbers
 t_rows_behind:Tf K mg "rows_behind" K08.s_rows_behind
 t_other_side:Tf K mg "other_side" K08.s_other_side
 t_are_of_all:Tf K mg "are_of_all" K08.s_are_of_all
 t_number_of_lost:Tf K mg "number_of_lost" K08.s_number_of_lost
 t_is_number_of:Tf K mg "is_number_of" K08.s_is_number_of
 t_is_name_of_other:Tf K mg "is_name_of_other" K08.s_is_name_of_other
 t_lessened:Tf K mg "lessened" K08.s_lessened
 t_without:Tf K mg "without" K08.s_without
 t_both:Tf K mg "both" K08.s_both
 t_joined:Tf K mg "joined" K08.s_joined
 t_made_by_less:Tf K mg "made_by_less" K08.s_made_by_less
 t_made_by_joined:Tf K mg "made_by_joined" K08.s_made_by_joined
 t_put_step:Tf K mg "put_step" K08.s_put_step
 t_is_used_up:Tf K mg "is_used_up" K08.s_is_used_up
 t_literal_used:Tf K mg "literal_used" K08.s_literal_used
 t_told_term:Tf K mg "told_term" K08.s_told_term
 t_made_by:Tf K mg "made_by" K08.s_made_by
 t_all_made:Tf K mg "all_made" K08.s_all_made
 t_by_paper:Tf K mg "by_paper" K08.s_by_paper
 t_by_terms:Tf K mg "by_terms" K08.s_by_terms
 t_have_one_in_common:Tf K mg "have_one_in_common" K08.s_have_one_in_common
 t_term_of_play:Tf K mg "term_of_play" K08.s_term_of_play
 t_law_mix:Tf K mg "_law_mix" K08.s_law_mix
 t_law_digits:Tf K mg "_law_digits" K08.s_law_digits
 t_law_at:Tf K mg "_law_at" K08.s_law_at
 t_law_kinds:Tf K mg "_law_kinds" K08.s_law_kinds
 t_law_row:Tf K mg "_law_row" K08.s_law_row
 t_law_claim:Tf K mg "_law_claim" K08.s_law_claim
 t_law_right:Tf K mg "_law_right" K08.s_law_right
 t_law_plays:Tf K mg "_law_plays" K08.s_law_plays
 t_law_lost:Tf K mg "_law_lost" K08.s_law_lost
 t_law_winners:Tf K mg "_law_winners" K08.s_law_winners
 t_law_whole:Tf K mg "_law_whole" K08.s_law_whole
 t_law_less:Tf K mg "_law_less" K08.s_law_less
 t_law_joined:Tf K mg "_law_joined" K08.s_law_joined
 t_law_first:Tf K mg "_law_first" K08.s_law_first
 t_law_step:Tf K mg "_law_step" K08.s_law_step
 t_law_term:Tf K mg "_law_term" K08.s_law_term
 t_law_drawn_step:Tf K mg "_law_drawn_step" K08.s_law_drawn_step
 t_law_drawn_steps:Tf K mg "_law_drawn_steps" K08.s_law_drawn_steps
 t_law_behind:Tf K mg "_law_behind" K08.s_law_behind
 t_law_played:Tf K mg "_law_played" K08.s_law_played
 t_law_won:Tf K mg "_law_won" K08.s_law_won
 t_plan_behind:Tf K mg "plan_behind" K08.s_plan_behind
 t_plan_by_picks:Tf K mg "plan_by_picks" K08.s_plan_by_picks
 t_plan:Tf K mg "plan" K08.s_plan
 t_put_tree:Tf K mg "put_tree" K08.s_put_tree
 t_put_each:Tf K mg "put_each" K08.s_put_each
 t_paper:Tf K mg "paper" K08.s_paper
 t_term_paper:Tn K mg "term_paper" K08.s_term_paper
 t_law:Tf K mg "law" K08.s_law
 n_abs:mg "abs" = none
 n_all:mg "all" = none
 n_any:mg "any" = none
 n_bool:mg "bool" = none
 n_enumerate:mg "enumerate" = none
 n_int:mg "int" = none
 n_isinstance:mg "isinstance" = none
 n_len:mg "len" = none
 n_list:mg "list" = none
 n_max:mg "max" = none
 n_range:mg "range" = none
 n_sorted:mg "sorted" = none
 n_str:mg "str" = none
 n_tuple:mg "tuple" = none
 n_zip:mg "zip" = none
 c_TRUTHS:Gc K mg "TRUTHS" k_TRUTHS
 v_told_term:Fv K mg "told_term"
section
variable {P:Vi} {w:Vu} {K:Xb} {mg:Str->Option Vb} {base:Uaa}
local macro_rules | `(tactic| fail $s:str)=>do
 if s.getString.take 1 != "~" then Lean.Macro.throwUnsupported
 let mut o:Array (Lean.TSyntax `tactic) := #[]
 let ls:=("a=Q _;b=R Zax ? ? ?;c=E Za3;d=R Zam ? Za5;e=R Zam ? ?;g=E nd;h=E ( Zaa ( pv 0 ) );i=R Zh4 ? ? Za5;j=R Zb4 ?;k=E ( Zaa ( pv 1 ) );l=R Zb8 Zjg ? T.n_len Zpx ?;m=I _;n=R Zpb Tbd ? ? ? ?;o=E ( Zaa ( pv 2 ) );p=E Zay ixf ( Zaa ( pv 3 ) ) Zae @f;q=E ( Zaa ( pv 3 ) );r=E ( Zaa ( pv 4 ) );s=E Zbf;u=R Zcw ?;v=R Zex ?;w=E Zay ixf ( Zaa ( pv 0 ) ) Zae @f;x=E Zb4 Zjm;y=E Zon Za3;z=R Zon ?;A=R Zat Zgk ? Zae;C=R PWf.pt ?;D=R Za2 @i3 ? ? ? ?;E=E Zae;F=R Ybl ?;G=R Zay ixf ? ? @f;H=R Yea ? ?;I=R Zw8 ?;J=R Zcy ?;K=E Zay ixf ( Zaa ( pv 2 ) ) Zae @f;L=R Zb8 Zv8 ? T.n_isinstance Zl3 ?;M=E ( Zaa ( pv 5 ) );N=R Za2 @i4 ? ? ? ?;O=R Zb8 Zu7 ? T.n_abs Zs0 ?;P=R Yaq ?;Q=R Zt2 ? ?;R=R Zf5 Zo6 ? T.n_tuple Zii ?;S=E Zay ixf ( Zaa ( pv 4 ) ) Zae @f;T=R Zat Zgp ? Zae;U=R Zbl @i5 ? ? ?;V=R Zqk ?;W=R Zki Uk Ul Zdp ( Zaa ( pv 2 ) ) ?;X=R Zak ( Zb3 hr.units ) ? Zae ( Zav _ );Y=R Zre ? T.n_range ?;Z=R Zbl @i2 ? ? ?;0=E Zb4 Zkj;1=R Zbl @i3 ? ? ?;2=R Za2 @i2 ? ? ? ?;3=R Zak ( Zb3 hr.units ) ? Zbf ( Zav _ );4=R Zat Zgk ? ?;5=R Ybt ? ?;6=R Zv7 ? ?;7=R Zg0 ? ?;8=R Zg0 ? Zpt;9=E Zf3 Zae;aa=E Zxs;ab=R Zay ixf ( Zaa ( pv 2 ) ) ? @f;ac=E ( Zaa ( pv 6 ) );ad=R Zf5 Zuh ? T.n_int Zqv ?;ae=E Zcw Za3;af=R Zbl @i4 ? ? ?;ag=E Zcy ( Zaa ( pv 0 ) );ah=R Za2 @i6 ? ? ? ?;ai=E Zkj;aj=R Yah ?;ak=R Zh4 ? ? ?;al=E Zay ixf ( Zaa ( pv 1 ) ) Zae @f;am=E ( Zaa ( pv 7 ) );an=R Zat Za9 ? Zae;ao=R Zat Za9 ? ?;ap=E Zat Za9 ( Zaa ( pv 1 ) ) Zae;aq=R Zak ( Zb3 hr.units ) ? ? ( Zav _ );ar=R Zh5 ? T.n_bool Ybf;as=R Zay ixf ( Zaa ( pv 1 ) ) ? @f;at=E Zcy ( Zaa ( pv 1 ) );au=R Zay ixf ( Zaa ( pv 0 ) ) ? @f;av=R Za2 @i5 ? ? ? ?;aw=E ( Zaa ( pv 9 ) );ax=E Zb4 ( Zaa ( pv 2 ) );ay=R Zao ( ok_law_digits T ) ( hr.mono @d ) ? ?;az=R Zao ( ok_law_at T ) ( hr.mono @d ) ? ?;aA=E Zcy ( Zaa ( pv 2 ) );aB=R Zak ( Zd9 hr.units ) ? ( Zaa ( pv 2 ) ) ( Zav _ );aC=R Zao ( ok_law_whole T ) ( hr.mono @d ) ? ?;aD=R Zco ( Zb3 hr.units ) ? ? ( Zav _ );aE=R Zao ( ok_is_right T ) ( hr.mono @d ) ? ?;aF=R Zao ( ok_is_number_of T ) ( hr.mono @d ) ? ?;aG=R Zki Uk Ul Zdp ( Zaa ( pv 4 ) ) ?;aH=E Zat Zhh Zae ( Zaa ( pv 1 ) );aI=R Zat Za9 ( Zaa ( pv 3 ) ) ?;aJ=R Zay ixf ( Zaa ( pv 3 ) ) ? @f;aK=R Zat Za9 ( Zaa ( pv 2 ) ) ?;aL=R Zat Za9 ( Zaa ( pv 4 ) ) ?;aM=R Zao ( ok_law_plays T ) ( hr.mono @d ) ? ?;aN=R Zao ( ok_law_lost T ) ( hr.mono @d ) ? ?;aO=E Zay ixf ( Zaa ( pv 4 ) ) ( Zaa ( pv 3 ) ) @f;aP=R Zki Uk Ul Zdp ( Zaa ( pv 3 ) ) ?;aQ=R Zat Za9 ? ( Zaa ( pv 1 ) );aR=R Zat Za9 ( Zaa ( pv 5 ) ) ?;aS=R Zjx Znh Zkw Zae ( Zaa ( pv 0 ) ) ( Zaa ( pv 1 ) ) ?" : String).splitOn ";"
 for w in (s.getString.drop 1).toString.splitOn " " do
  if w == "f" then o:=o.push (<- `(tactic| first | exact Tba rfl | exact Tau rfl)); continue
  if w == "t" then o:=o.push (<- `(tactic| refine Zg7 ?_ (fun _=>rfl))); continue
  if w == "B" then o:=o.push (<- `(tactic| with_unfolding_all rfl)); continue
  if w == "U1" then o:=o.push (<- `(tactic| (intro _ _ _ _ _ _ us hl; obtain⟨_,e⟩:=us1 hl; subst e; rfl))); continue
  if w == "U2" then o:=o.push (<- `(tactic| (intro _ _ _ _ _ _ us hl; obtain⟨_,_,e⟩:=us2 hl; subst e; rfl))); continue
  if w == "U3" then o:=o.push (<- `(tactic| (intro _ _ _ _ _ _ us hl; obtain⟨_,_,_,e⟩:=us3 hl; subst e; rfl))); continue
  if w == "U4" then o:=o.push (<- `(tactic| (intro _ _ _ _ _ _ us hl; obtain⟨_,_,_,_,e⟩:=us4 hl; subst e; rfl))); continue
  if w == "U5" then o:=o.push (<- `(tactic| (intro _ _ _ _ _ _ us hl; obtain⟨_,_,_,_,_,e⟩:=us5 hl; subst e; rfl))); continue
  let some l:=ls.find? (·.startsWith (w ++ "=")) | Lean.Macro.throwUnsupported
  let ts:=(l.drop (w.length+1)).toString.splitOn " "
  let mut st:Array (Array Lean.Term) := #[#[]]
  for t in ts.drop 1 do
   if t == "(" then st:=st.push #[] else
    let mut x:Lean.Term:=⟨Lean.mkIdent t.toName⟩
    if t == ")" then
     let a:=st.back!
     st:=st.pop
     x <- `(($(Lean.Syntax.mkApp a[0]! (a.extract 1 a.size))))
    else if t == "?" then x <- `(?_)
    else if t == "_" then x <- `(_)
    else if t == "@d" then x <- `(by decide)
    else if t == "@r" then x <- `(by rfl)
    else if t == "@f" then x <- `(fun _ _=>rfl)
    else if t.startsWith "@i" then
     let n <- `(a ($(Lean.mkIdent `i) := $(Lean.Syntax.mkNumLit (t.drop 2).toString)))
     x:=⟨n.raw[1][0]⟩
    else if t.all Char.isDigit then x:=Lean.Syntax.mkNumLit t
    st:=st.push (st.back!.push x)
    st:=(st.extract 0 (st.size - 2)).push st.back!
  let a:=st[0]!
  let e:=Lean.Syntax.mkApp a[0]! (a.extract 1 a.size)
  o:=o.push (<- match ts.head! with
   | "R" => `(tactic| refine $e)
   | "E" => `(tactic| exact $e)
   | "I" => `(tactic| intro _ _ _ _ _ _)
   | "F" => `(tactic| first | exact Or.inl rfl | exact Or.inr rfl)
   | _ => `(tactic| rfl))
 `(tactic| ($[$o]*))
theorem Zjz (T:Top K mg):Fn P w K mg base 1 "is_whole" ["thing"] Zf1:=by
 refine(fun h=>h:_->Fn P w K mg base 1 "is_whole" ["thing"] (Za4 1 1 Zem)) (Za7 (N:=["thing"]) (k:=0) T.t_is_whole Zog (by fail "~U1") ?_)
 intro f cdv A outer s H E hr
 unfold Zem
 fail "~d j 5 L a b h b"
 refine Zh5 ?_ T.n_int Zqv
 fail "~a c a a aj"
 refine Zop ?_
 fail "~L a b h b ar a c a a"
theorem Zkz (T:Top K mg):Fn P w K mg base 1 "is_open" ["literal","play"] Zg2:=by
 refine(fun h=>h:_->Fn P w K mg base 1 "is_open" ["literal","play"] (Za4 2 2 Zff)) (Za7 (N:=["literal","play"]) (k:=0) T.t_is_open Zrz (by fail "~U2") ?_)
 intro f cdv A outer s H E hr
 unfold Zff
 fail "~d j"
 refine Zco Ziv ?_ ?_ (Zav _)
 fail "~O a b h c a l a b k c a"
theorem ok_is_right (T:Top K mg):Fn P w K mg base 2 "is_right" ["literal","play"] Zdn:=by
 refine(fun h=>h:_->Fn P w K mg base 2 "is_right" ["literal","play"] (Za4 2 2 Zep)) (Za7 (N:=["literal","play"]) (k:=1) T.t_is_right Zo9 (by fail "~U2") ?_)
 intro f cdv A outer s H E hr
 unfold Zep
 fail "~d j 5"
 refine Zop ?_
 refine Zao (Zkz T) (hr.mono (by decide)) ?_ ?_
 fail "~a b h b k c a a aj aD as T O a b h c a"
 exact Zco Ziv (Zaa (pv 0)) Zae (Zav _)
theorem Zry (T:Top K mg):Fn P w K mg base 3 "is_lost" ["row","play"] Zm0:=by
 refine(fun h=>h:_->Fn P w K mg base 3 "is_lost" ["row","play"] (Za4 2 3 Zi8)) (Za7 (N:=["row","play","literal"]) (k:=2) T.t_is_lost Zkg (by fail "~U2") ?_)
 intro f cdv A outer s H E hr
 unfold Zi8
 fail "~e n a ag Z"
 exact Zkg.nd
 fail "~a f d i C H t"
 refine Zao (Zkz T) (hr.mono (by decide)) ?_ ?_
 fail "~a b o b k c a a P t aE a b o b k c a a d 0 d 0"
theorem Zie (T:Top K mg):Fn P w K mg base 1 "first_numbers" ["rows"] Zcp:=by
 refine(fun h=>h:_->Fn P w K mg base 1 "first_numbers" ["rows"] (Za4 1 4 Zby)) (Za7 (N:=["rows","told","number","row"]) (k:=0) T.t_first_numbers Ze9 (by fail "~U1") ?_)
 intro f cdv A outer s H E hr
 unfold Zby
 have nd:=Ze9.nd
 fail "~e"
 refine Za2 (i:=1) ?_ ?_ ?_ Zli
 fail "~g a f e n a"
 refine Zlx ?_ T.n_enumerate ?_
 fail "~a b h c a 6 a 7 Z g a f 8 1 g a f d v"
 refine Zt6 Us Taf (Yau hr.units) (Zaa (pv 1)) ?_
 fail "~b q b o c a a d"
 exact Zb4 (Zaa (pv 1))
theorem Zkc (T:Top K mg):Fn P w K mg base 1 "rows_behind" ["rows","name","truth"] Zdl:=by
 refine(fun h=>h:_->Fn P w K mg base 1 "rows_behind" ["rows","name","truth"] (Za4 3 7 Zcl)) (Za7 (N:=["rows","name","truth","right","told","row","first"]) (k:=0) T.t_rows_behind Zf9 (by fail "~U3") ?_)
 intro f cdv A outer s H E hr
 unfold Zcl
 have nd:=Zf9.nd
 fail "~e D g a f"
 refine Zpu ?_ (Zaa (pv 1)) ?_
 exact Zg7 (Zaa (pv 2)) (fun _=>rfl)
 exact Zd6 Zcq (Zaa (pv 1))
 fail "~e"
 refine Za2 (i:=4) ?_ ?_ ?_ Zli
 fail "~g a f e n a"
 exact Zu2 (Zaa (pv 0))
 fail "~U g a f e ah g a f"
 refine Zpu ?_ ?_ Zae
 exact Zg7 (Zaa (pv 5)) (fun _=>rfl)
 exact Zay ixf (Zaa (pv 5)) Zae (fun _ _=>rfl)
 fail "~d ak"
 refine Zak (Zb3 hr.units) (Zaa (pv 6)) ?_ (Zav _)
 exact Zd6 Zcq (Zaa (pv 3))
 fail "~d v"
 refine Zt6 Us Taf (Yau hr.units) (Zaa (pv 4)) ?_
 fail "~b"
 refine Zb0 (Zaa (pv 5)) ?_ Zc1
 fail "~9 b"
 exact Zay (Zr3 hr.units) (Zaa (pv 0)) (Zaa (pv 5)) (fun _ _=>rfl)
 fail "~c a a d i"
 exact Zak (Zd9 hr.units) (Zaa (pv 6)) (Zaa (pv 3)) (Zav _)
 fail "~d v"
 refine Zt6 Us Taf (Yau hr.units) (Zaa (pv 4)) ?_
 fail "~b M b"
 exact Zay (Zr3 hr.units) (Zaa (pv 0)) (Zaa (pv 5)) (fun _ _=>rfl)
 fail "~c a a d"
 exact Zb4 (Zaa (pv 4))
theorem Zl8 (T:Top K mg):Fn P w K mg base 1 "other_side" ["side"] Zci:=by
 refine(fun h=>h:_->Fn P w K mg base 1 "other_side" ["side"] (Za4 1 1 Zc6)) (Za7 (N:=["side"]) (k:=0) T.t_other_side Zlk (by fail "~U1") ?_)
 intro f cdv A outer s H E hr
 unfold Zc6
 fail "~d j"
 refine Zpu ?_ Zbf Zbf
 exact Zak (Zb3 hr.units) (Zaa (pv 0)) Zbf (Zav _)
theorem Zla (T:Top K mg):Fn P w K mg base 1 "are_of_all" ["kinds","literals"] Zfr:=by
 refine(fun h=>h:_->Fn P w K mg base 1 "are_of_all" ["kinds","literals"] (Za4 2 2 Zc8)) (Za7 (N:=["kinds","literals"]) (k:=0) T.t_are_of_all Zlm (by fail "~U2") ?_)
 intro f cdv A outer s H E hr
 unfold Zc8
 fail "~d j"
 refine Zb8 (Zmt (by rfl)) ?_ T.n_all Zyo ?_
 fail "~a b"
 refine Zgc (cn:=["kinds"]) ?_ (Zcr (x := "literal") (cn:=["kinds"]) (ci:=[0]) (by decide +kernel)) ?_ ?_ ?_
 fail "~a at m aa m"
 refine Zco (Zb3 hr.units) ?_ Zbf (Zav _)
 fail "~as T O a b h c a c a"
theorem Zhz (T:Top K mg):Fn P w K mg base 2 "number_of_lost" ["kinds","rows"] Zdi:=by
 refine(fun h=>h:_->Fn P w K mg base 2 "number_of_lost" ["kinds","rows"] (Za4 2 3 Zbq)) (Za7 (N:=["kinds","rows","row"]) (k:=1) T.t_number_of_lost Zen (by fail "~U2") ?_)
 intro f cdv A outer s H E hr
 unfold Zbq
 fail "~e n a"
 exact Zu2 (Zaa (pv 1))
 fail "~Z"
 exact Zen.nd
 fail "~a f d i t"
 refine Zao (Zla T) (hr.mono (by decide)) ?_ ?_
 fail "~a b h b o c a a d j"
 exact Zay (Zr3 hr.units) (Zaa (pv 1)) (Zaa (pv 2)) (fun _ _=>rfl)
 fail "~d x"
theorem ok_is_number_of (T:Top K mg):Fn P w K mg base 2 "is_number_of" ["thing","many"] Zce:=by
 refine(fun h=>h:_->Fn P w K mg base 2 "is_number_of" ["thing","many"] (Za4 2 2 Zca)) (Za7 (N:=["thing","many"]) (k:=1) T.t_is_number_of Zj0 (by fail "~U2") ?_)
 intro f cdv A outer s H E hr
 unfold Zca
 fail "~d j 5"
 refine Zao (Zjz T) (hr.mono (by decide)) ?_ ?_
 fail "~a b h c a aj aS B"
theorem Zgf (T:Top K mg):Fn P w K mg base 2 "is_name_of_other" ["kinds","side","thing"] Zcm:=by
 refine(fun h=>h:_->Fn P w K mg base 2 "is_name_of_other" ["kinds","side","thing"] (Za4 3 3 Zbh)) (Za7 (N:=["kinds","side","thing"]) (k:=1) T.t_is_name_of_other Zgh (by fail "~U3") ?_)
 intro f cdv A outer s H E hr
 unfold Zbh
 fail "~d j 5"
 refine Zao (Zjz T) (hr.mono (by decide)) ?_ ?_
 fail "~a b o c a 5"
 refine Zjx Znh Znh Zae (Zaa (pv 2)) ?_ ?_
 fail "~l a b h c a B aj"
 refine Zco (Zd9 hr.units) ?_ (Zaa (pv 1)) (Zav _)
 fail "~au"
 exact Zat Zgp (Zaa (pv 2)) Zae
theorem Zjk (T:Top K mg):Fn P w K mg base 1 "lessened" ["kinds","side","row"] Zf2:=by
 refine(fun h=>h:_->Fn P w K mg base 1 "lessened" ["kinds","side","row"] (Za4 3 4 Zej)) (Za7 (N:=["kinds","side","row","stays"]) (k:=0) T.t_lessened Zgt (by fail "~U3") ?_)
 intro f cdv A outer s H E hr
 unfold Zej
 fail "~e D"
 exact Zgt.nd
 fail "~a f l a b o c a e"
 refine Zt1 Tbd ?_ ?_
 fail "~C Q"
 exact Zak Ziv (Zaa (pv 3)) Zae (Zav _)
 fail "~V"
 refine Zak (Zb3 hr.units) ?_ (Zaa (pv 1)) (Zav _)
 fail "~au T O a b ab"
 exact Zat Zgp (Zaa (pv 3)) Zae
 fail "~c a d"
 refine Yac (i:=3) Ycz ?_ ?_ ?_ Zae
 exact Zgt.nd
 fail "~a f d j"
 refine Zb0 (Zaa (pv 2)) Zc1 ?_
 exact Zf3 (Zaa (pv 3))
theorem Zkl (T:Top K mg):Fn P w K mg base 1 "without" ["row","literal"] Zgu:=by
 refine(fun h=>h:_->Fn P w K mg base 1 "without" ["row","literal"] (Za4 2 2 Zfq)) (Za7 (N:=["row","literal"]) (k:=0) T.t_without Zrf (by fail "~U2") ?_)
 intro f cdv A outer s H E hr
 unfold Zfq
 fail "~d j R a b"
 refine Zgc (cn:=["literal"]) ?_ (Zcr (x := "other") (cn:=["literal"]) (ci:=[1]) (by decide +kernel)) ?_ ?_ ?_
 fail "~a ag m I"
 exact Zak (Zd9 hr.units) (Zaa (pv 0)) (Zaa (pv 1)) (Zav _)
 fail "~m h c a"
theorem Yb4 (T:Top K mg):Fn P w K mg base 1 "both" ["one","other"] Zu6:=by
 refine(fun h=>h:_->Fn P w K mg base 1 "both" ["one","other"] (Za4 2 4 Zoc)) (Za7 (N:=["one","other","told","literal"]) (k:=0) T.t_both Zol (by fail "~U2") ?_)
 intro f cdv A outer s H E hr
 unfold Zoc
 fail "~e 2"
 exact Zol.nd
 fail "~a f"
 refine Zf5 Zkv ?_ T.n_list Ztw ?_
 fail "~a b h c a e n a at 1"
 exact Zol.nd
 fail "~a f e i"
 refine Zak (Zke hr.units) ?_ (Zaa (pv 0)) ?_
 exact Zd6 Zcq (Zaa (pv 3))
 fail "~B d x d i"
 refine Zak (Zg4 hr.units) (Zaa (pv 3)) (Zaa (pv 0)) ?_
 fail "~B d v W b q c a d j R a b"
 refine Zmo ?_ T.n_sorted ?_ T.n_abs ?_
 fail "~a a b o c a c a"
theorem Zmm (T:Top K mg):Fn P w K mg base 2 "joined" ["one","other","name"] Zik:=by
 refine(fun h=>h:_->Fn P w K mg base 2 "joined" ["one","other","name"] (Za4 3 3 Zgv)) (Za7 (N:=["one","other","name"]) (k:=1) T.t_joined Zv6 (by fail "~U3") ?_)
 intro f cdv A outer s H E hr
 unfold Zgv
 fail "~e i C H"
 refine Zak (Zg4 hr.units) (Zaa (pv 2)) (Zaa (pv 0)) ?_
 fail "~B P"
 refine Zak (Zg4 hr.units) ?_ (Zaa (pv 1)) ?_
 exact Zd6 Zcq (Zaa (pv 2))
 fail "~B d x d j"
 refine Zao (Yb4 T) (hr.mono (by decide)) ?_ ?_
 fail "~a b"
 refine Zao (Zkl T) (hr.mono (by decide)) ?_ ?_
 fail "~a b h b o c a a b"
 refine Zao (Zkl T) (hr.mono (by decide)) ?_ ?_
 fail "~a b k b"
 exact Zd6 Zcq (Zaa (pv 2))
 fail "~c a a c a a"
theorem Ziz (T:Top K mg):Fn P w K mg base 3 "made_by_less" ["kinds","side","made","step"] Zgb:=by
 refine(fun h=>h:_->Fn P w K mg base 3 "made_by_less" ["kinds","side","made","step"] (Za4 4 4 Zcd)) (Za7 (N:=["kinds","side","made","step"]) (k:=2) T.t_made_by_less Zip (by fail "~U4") ?_)
 intro f cdv A outer s H E hr
 unfold Zcd
 fail "~e i C H"
 refine Zak (Zd9 hr.units) ?_ Zae (Zav _)
 fail "~l a b q c a P F t aF a b p b l a b o c a c a a d x d j"
 refine Zao (Zjk T) (hr.mono (by decide)) ?_ ?_
 fail "~a b h b k b ab p c a a a"
theorem Zhx (T:Top K mg):Fn P w K mg base 3 "made_by_joined" ["kinds","side","made","step"] Ze7:=by
 refine(fun h=>h:_->Fn P w K mg base 3 "made_by_joined" ["kinds","side","made","step"] (Za4 4 4 Zbr)) (Za7 (N:=["kinds","side","made","step"]) (k:=2) T.t_made_by_joined Zhp (by fail "~U4") ?_)
 intro f cdv A outer s H E hr
 unfold Zbr
 fail "~e i C H"
 refine Zak (Zd9 hr.units) ?_ Zae (Zav _)
 fail "~l a b q c a H F t aF a b p b l a b o c a c a a P F t aF a b p b l a b o c a c a a d x e i F t"
 refine Zao (Zgf T) (hr.mono (by decide)) ?_ ?_
 fail "~a b h b k b p c a a a d x d j"
 refine Zao (Zmm T) (hr.mono (by decide)) ?_ ?_
 fail "~a b ab p b ab p b p c a a a"
theorem Zjy (T:Top K mg):Fn P w K mg base 2 "put_step" ["kinds","side","pairs","step","row"] Zfz:=by
 refine(fun h=>h:_->Fn P w K mg base 2 "put_step" ["kinds","side","pairs","step","row"] (Za4 5 6 Zek)) (Za7 (N:=["kinds","side","pairs","step","row","less"]) (k:=1) T.t_put_step Zjn (by fail "~U5") ?_)
 intro f cdv A outer s H E hr
 unfold Zek
 fail "~e v W b u b q b r c a a c a e av"
 exact Zjn.nd
 fail "~a f"
 refine Zao (Zjk T) (hr.mono (by decide)) ?_ ?_
 fail "~a b h b k b r c a a a d i"
 exact Zak (Zd9 hr.units) (Zaa (pv 5)) (Zaa (pv 4)) (Zav _)
 fail "~d v W b u b u b s b T l a b o c a c a a b M c a a c a"
theorem Zme (T:Top K mg):Fn P w K mg base 4 "is_used_up" ["side","row","play"] Zfi:=by
 refine(fun h=>h:_->Fn P w K mg base 4 "is_used_up" ["side","row","play"] (Za4 3 3 Zc2)) (Za7 (N:=["side","row","play"]) (k:=3) T.t_is_used_up Zmd (by fail "~U3") ?_)
 intro f cdv A outer s H E hr
 unfold Zc2
 fail "~e i"
 exact Zak (Zb3 hr.units) (Zaa (pv 0)) Zbf (Zav _)
 fail "~d j"
 refine Zao (Zry T) (hr.mono (by decide)) ?_ ?_
 fail "~a b k b o c a a d j"
 refine Zb8 (Zmt (by rfl)) ?_ T.n_all Zyo ?_
 fail "~a b"
 refine Zgc (cn:=["play"]) ?_ (Zcr (x := "literal") (cn:=["play"]) (ci:=[2]) (by decide +kernel)) ?_ ?_ ?_
 fail "~a at m aa m aE a b h b k c a a c a"
theorem Zj1 (T:Top K mg):Fn P w K mg base 1 "literal_used" ["side","name","truth"] Zcz:=by
 refine(fun h=>h:_->Fn P w K mg base 1 "literal_used" ["side","name","truth"] (Za4 3 3 Zbi)) (Za7 (N:=["side","name","truth"]) (k:=0) T.t_literal_used Zj2 (by fail "~U3") ?_)
 intro f cdv A outer s H E hr
 unfold Zbi
 fail "~d j"
 refine Zpu ?_ (Zaa (pv 1)) ?_
 refine Zak (Zb3 hr.units) (Zaa (pv 2)) ?_ (Zav _)
 exact Zco (Zb3 hr.units) (Zaa (pv 0)) Zbf (Zav _)
 exact Zd6 Zcq (Zaa (pv 1))
theorem Znk (T:Top K mg):Fn P w K mg base 1 "told_term" ["claim","step"] Ziu:=by
 refine(fun h=>h:_->Fn P w K mg base 1 "told_term" ["claim","step"] (Za4 2 2 Zdw)) (Za7 (N:=["claim","step"]) (k:=0) T.t_told_term Zna (by fail "~U2") ?_)
 intro f cdv A outer s H E hr
 unfold Zdw
 fail "~d j al"
theorem Zro (T:Top K mg):Fn P w K mg base 4 "made_by" ["claim","side","first","made","step"] Zg3:=by
 refine(fun h=>h:_->Fn P w K mg base 4 "made_by" ["claim","side","first","made","step"] (Za4 5 5 Zfo)) (Za7 (N:=["claim","side","first","made","step"]) (k:=3) T.t_made_by Zrg (by fail "~U5") ?_)
 intro f cdv A outer s H E hr
 unfold Zfo
 fail "~e i C H F t L a b r b"
 refine Zh5 ?_ T.n_tuple Zii
 fail "~a c a a P X l a b r c a d x e i 3 S d j"
 refine Zao (Ziz T) (hr.mono (by decide)) ?_ ?_
 fail "~a b w b k b q b r c a a a a e i 3 S d j"
 refine Zao (Zhx T) (hr.mono (by decide)) ?_ ?_
 fail "~a b w b k b q b r c a a a a d j"
 refine Zte (i:=2) (Znk T) T.v_told_term (hr.mono (by decide)) (pv 2) ?_
 fail "~b h b r c a a"
theorem Zpr (T:Top K mg):Fn P w K mg base 5 "all_made" ["claim","side","first","steps"] Zh1:=by
 refine(fun h=>h:_->Fn P w K mg base 5 "all_made" ["claim","side","first","steps"] (Za4 4 8 Zer)) (Za7 (N:=["claim","side","first","steps","made","number","step","row"]) (k:=4) T.t_all_made Zi3 (by fail "~U4") ?_)
 intro f cdv A outer s H E hr
 unfold Zer
 have nd:=Zi3.nd
 fail "~e N g a f y e n a"
 refine Zvz ?_ T.n_enumerate ?_
 fail "~a b q c a 6 a 7 U g a f 8"
 refine Zbl (i:=6) ?_ ?_ ?_
 fail "~g a f e"
 refine Za2 (i:=7) ?_ ?_ ?_ ?_
 fail "~g a f"
 refine Zao (Zro T) (hr.mono (by decide)) ?_ ?_
 fail "~a b h b k b o b r b ac c a a a a a e i"
 exact Zak Ydu (Zaa (pv 7)) Zjm (Zav _)
 exact Zam Zv0 Za5
 fail "~d v aG b am c a d"
 exact Zb4 (Zaa (pv 4))
theorem Zoh (T:Top K mg):Fn P w K mg base 6 "by_paper" ["claim","side","first","steps","play"] Zkn:=by
 refine(fun h=>h:_->Fn P w K mg base 6 "by_paper" ["claim","side","first","steps","play"] (Za4 5 10 Zeo)) (Za7 (N:=["claim","side","first","steps","play","rows","name","step","row","truth"]) (k:=5) T.t_by_paper Zji (by fail "~U5") ?_)
 intro f cdv A outer s H E hr
 unfold Zeo
 have nd:=Zji.nd
 fail "~e av g a f"
 refine Zao (Zpr T) (hr.mono (by decide)) ?_ ?_
 fail "~a b h b k b o b q c a a a a e ah g a f an l a b r c a e n a"
 refine Zpw ?_ T.n_zip ?_
 fail "~a b q b M c a a 6 a 7"
 refine Zbl (i:=7) ?_ ?_ ?_
 fail "~g a f 8"
 refine Zbl (i:=8) ?_ ?_ ?_
 fail "~g a f d i C Q 3"
 exact Zay ixf (Zaa (pv 7)) Zae (fun _ _=>rfl)
 fail "~V t"
 refine Zao (Zme T) (hr.mono (by decide)) ?_ ?_
 fail "~a b k b"
 exact(Zaa (pv 8))
 fail "~b r c a a a d n a J"
 refine Zvu ?_ T.c_TRUTHS
 fail "~a"
 refine Zbl (i:=9) ?_ ?_ ?_
 fail "~g a f d i"
 refine Zak (Zke hr.units) ?_ ?_ ?_
 refine Zao (Zj1 T) (hr.mono (by decide)) ?_ ?_
 fail "~a b k b ac b aw c a a a"
 refine Zay ixf (Zaa (pv 5)) ?_ (fun _ _=>rfl)
 exact Zay ixf (Zaa (pv 7)) Zae (fun _ _=>rfl)
 fail "~B d"
 exact Zb4 (Zaa (pv 9))
 fail "~d 0"
theorem Zpk (T:Top K mg):Fn P w K mg base 7 "by_terms" ["claim","steps","play"] Zhr:=by
 refine(fun h=>h:_->Fn P w K mg base 7 "by_terms" ["claim","steps","play"] (Za4 3 3 Zeb)) (Za7 (N:=["claim","steps","play"]) (k:=6) T.t_by_terms Zpa (by fail "~U3") ?_)
 intro f cdv A outer s H E hr
 unfold Zeb
 fail "~d j"
 refine Zao (Zoh T) (hr.mono (by decide)) ?_ ?_
 fail "~a b h b s b"
 exact Ydj T.v_told_term
 fail "~b k b o c a a a a a"
theorem Zfs (T:Top K mg):Fn P w K mg base 1 "have_one_in_common" ["one","other"] Zb5:=by
 refine(fun h=>h:_->Fn P w K mg base 1 "have_one_in_common" ["one","other"] (Za4 2 2 Zbb)) (Za7 (N:=["one","other"]) (k:=0) T.t_have_one_in_common Zft (by fail "~U2") ?_)
 intro f cdv A outer s H E hr
 unfold Zbb
 fail "~d j"
 refine Zb8 (Zsw (by rfl)) ?_ T.n_any Yc0 ?_
 fail "~a b"
 refine Zgc (cn:=["other"]) ?_ (Zcr (x := "literal") (cn:=["other"]) (ci:=[1]) (by decide +kernel)) ?_ ?_ ?_
 fail "~a ag m aa m"
 refine Zco iinf (Zaa (pv 0)) (Zaa (pv 1)) ?_
 fail "~B c a"
theorem Zj3 (T:Top K mg):Fn P w K mg base 3 "term_of_play" ["rows","play"] Zea:=by
 refine(fun h=>h:_->Fn P w K mg base 3 "term_of_play" ["rows","play"] (Za4 2 5 Zb9)) (Za7 (N:=["rows","play","told","row","right"]) (k:=2) T.t_term_of_play Zfw (by fail "~U2") ?_)
 intro f cdv A outer s H E hr
 unfold Zb9
 have nd:=Zfw.nd
 fail "~e"
 refine Za2 (i:=2) ?_ ?_ ?_ Zjd
 fail "~g a f e n a ag 1 g a f d i F t"
 refine Zao (Zfs T) (hr.mono (by decide)) ?_ ?_
 fail "~a b q b o c a a e"
 refine Zc5 (i:=4) (cn:=["play"]) ?_ (Zcr (x := "literal") (cn:=["play"]) (ci:=[1]) (by decide +kernel)) ?_ ?_ ?_ ?_ ?_ ?_
 fail "~a"
 exact Zcy (Zaa (pv 3))
 fail "~m I t aE a b h b k c a a m h g a a d"
 refine Zgj Zkj ?_
 refine Zir (Zaa (pv 2)) ?_ Zz9
 fail "~S d j R a b"
 refine Zkm ?_ ?_ T.n_sorted ?_ T.n_abs ?_
 fail "~a a a b o c a c a"
theorem Zr1 (T:Top K mg):Fn P w K mg base 1 "_law_mix" ["cell","k"] Ziy:=by
 refine(fun h=>h:_->Fn P w K mg base 1 "_law_mix" ["cell","k"] (Za4 2 4 Zfe)) (Za7 (N:=["cell","k","prime","one"]) (k:=0) T.t_law_mix Zkx (by fail "~U2") ?_)
 intro f cdv A outer s H E hr
 unfold Zfe
 have nd:=Zkx.nd
 fail "~e 2 g a f G z b E b E b E b E b E b E b E c a a a a a a a"
 exact Zat Zgk (Zaa (pv 1)) Zae
 fail "~e D g a f"
 refine Zat Zgk ?_ (Zaa (pv 2))
 refine Zat Zhh ?_ ?_
 fail "~ao"
 exact Zat Zgk (Zaa (pv 0)) Zae
 refine Zat Zhh Zae ?_
 fail "~ap an ao"
 exact Zat Zhh (Zaa (pv 1)) (Zaa (pv 1))
 fail "~aH e D g a f A"
 exact Zat Zox (Zaa (pv 3)) Zae
 fail "~e D g a f"
 refine Zat Zgk ?_ (Zaa (pv 2))
 fail "~an ao"
 exact Zat Zhh (Zaa (pv 3)) Zae
 fail "~aH d j"
 refine Zat Zf0 ?_ Zae
 fail "~A"
 exact Zat Zox (Zaa (pv 3)) Zae
theorem ok_law_digits (T:Top K mg):Fn P w K mg base 2 "_law_digits" ["cell","many"] Zch:=by
 refine(fun h=>h:_->Fn P w K mg base 2 "_law_digits" ["cell","many"] (Za4 2 6 Zdd)) (Za7 (N:=["cell","many","found","left_over","wide","k"]) (k:=1) T.t_law_digits Zg9 (by fail "~U2") ?_)
 intro f cdv A outer s H E hr
 unfold Zdd
 have nd:=Zg9.nd
 fail "~e 2 g a f y e D g a f O a b h c a e N g a f"
 refine Zco Ycm (Zaa (pv 3)) ?_ (Zav _)
 exact Zat Zox Zae Zae
 fail "~e n a Y a b k c a U g a f d ak C Q"
 exact Zg7 (Zaa (pv 4)) (fun _=>rfl)
 fail "~V"
 exact Zak Ziv (Zaa (pv 3)) Zae (Zav _)
 fail "~e v W b"
 exact Zat Zgk (Zaa (pv 3)) Zae
 fail "~c a d D g a f"
 exact Zat Zf0 (Zaa (pv 3)) Zae
 fail "~d v W b"
 refine Zao (Zr1 T) (hr.mono (by decide)) ?_ ?_
 fail "~a b h b M c a a c a d ax"
theorem ok_law_at (T:Top K mg):Fn P w K mg base 1 "_law_at" ["script","k"] Zd3:=by
 refine(fun h=>h:_->Fn P w K mg base 1 "_law_at" ["script","k"] (Za4 2 2 Zhb)) (Za7 (N:=["script","k"]) (k:=0) T.t_law_at Ztl (by fail "~U2") ?_)
 intro f cdv A outer s H E hr
 unfold Zhb
 fail "~e i"
 refine Zak Zkw (Zaa (pv 1)) ?_ (Zav _)
 fail "~l a b h c a d j"
 exact Zay ixf (Zaa (pv 0)) (Zaa (pv 1)) (fun _ _=>rfl)
 fail "~d j ao an aH l a b h c a"
theorem Zmr (T:Top K mg):Fn P w K mg base 1 "_law_kinds" ["some","many"] Zgn:=by
 refine(fun h=>h:_->Fn P w K mg base 1 "_law_kinds" ["some","many"] (Za4 2 5 Zdq)) (Za7 (N:=["some","many","found","k","kind"]) (k:=0) T.t_law_kinds Zh6 (by fail "~U2") ?_)
 intro f cdv A outer s H E hr
 unfold Zdq
 have nd:=Zh6.nd
 fail "~e 2 g a f y e n a Y a b k c a 1 g a f e N g a f G z b s b s c a a A au"
 exact Zat Za9 Zae (Zaa (pv 3))
 fail "~e i X A w d N g a f G z b s b s c a a A aI w e i X A w d N g a f G z b s b s c a a ad a b"
 refine Zco Ziv ?_ Zae (Zav _)
 fail "~A au"
 exact Zat Za9 Zae (Zaa (pv 3))
 fail "~c a d v W b r c a d j R a b o c a"
theorem Zq9 (T:Top K mg):Fn P w K mg base 3 "_law_row" ["cell","many","wide"] Ziq:=by
 refine(fun h=>h:_->Fn P w K mg base 3 "_law_row" ["cell","many","wide"] (Za4 3 6 Zfk)) (Za7 (N:=["cell","many","wide","some","found","k"]) (k:=2) T.t_law_row Zkq (by fail "~U3") ?_)
 intro f cdv A outer s H E hr
 unfold Zfk
 have nd:=Zkq.nd
 fail "~e D g a f ay a b h b ap c a a e N g a f y e n a Y a b k c a U g a f d i"
 refine Zak Zkw ?_ ?_ (Zav _)
 fail "~4 aJ"
 exact Zat Za9 Zae (Zaa (pv 5))
 fail "~ap aK A p d v aG b G z b"
 exact Zat Za9 (Zaa (pv 5)) Zae
 fail "~b T"
 exact Zat Zgp Zae (Zaa (pv 5))
 fail "~c a a A"
 refine Zat Zf0 ?_ ?_
 fail "~aJ"
 exact Zat Za9 Zae (Zaa (pv 5))
 fail "~ap c a d j R a b r c a"
theorem Zni (T:Top K mg):Fn P w K mg base 4 "_law_claim" ["script","most"] Zgq:=by
 refine(fun h=>h:_->Fn P w K mg base 4 "_law_claim" ["script","most"] (Za4 2 7 Zdz)) (Za7 (N:=["script","most","some","many","kinds","size","rows"]) (k:=3) T.t_law_claim Zh8 (by fail "~U2") ?_)
 intro f cdv A outer s H E hr
 unfold Zdz
 have nd:=Zh8.nd
 fail "~e 2 g a f ay a b az a b h b E c a a b E c a a e D g a f G z b 4 K ap b"
 refine Zat Zgp (Zaa (pv 1)) ?_
 fail "~A K b k c a a a A K e N g a f"
 refine Zao (Zmr T) (hr.mono (by decide)) ?_ ?_
 fail "~a b"
 refine Zb0 (Zaa (pv 2)) ?_ Zc1
 fail "~9 b"
 refine Zb8 (Zve (by rfl)) ?_ T.n_max Ydw ?_
 fail "~a b E b q c a a c a a e av g a f G z b A K b A K b"
 refine Zat Za9 Zae ?_
 fail "~A K c a a a A K e"
 refine Zc5 (i:=6) (cn:=["script","kinds"]) ?_ (Zcr (x := "k") (cn:=["script","kinds"]) (ci:=[0,4]) (by decide +kernel)) ?_ ?_ ?_ ?_ ?_ ?_
 fail "~a Y a b M c a m aa m"
 refine Zao (Zq9 T) (hr.mono (by decide)) ?_ ?_
 fail "~a b az a b k b"
 exact Zat Za9 Zae (Zaa (pv 0))
 fail "~c a a b l a b o c a b E c a a a g a a e i"
 refine Zak Ziv ?_ Zae (Zav _)
 fail "~A K d"
 refine Zc5 (i:=6) (cn:=[]) ?_ (Zcr (x := "row") (cn:=[]) (ci:=[]) (by decide +kernel)) ?_ ?_ ?_ ?_ ?_ ?_
 fail "~a"
 exact Zcy (Zaa (pv 6))
 fail "~m I"
 refine Zak (Zd9 hr.units) (Zaa (pv 0)) ?_ (Zav _)
 fail "~ae m h g a a d j u b r b R a b ac c a c a a"
theorem Zh3 (T:Top K mg):Fn P w K mg base 1 "_law_right" ["literal","play"] Zdu:=by
 refine(fun h=>h:_->Fn P w K mg base 1 "_law_right" ["literal","play"] (Za4 2 2 Zdr)) (Za7 (N:=["literal","play"]) (k:=0) T.t_law_right Zm1 (by fail "~U2") ?_)
 intro f cdv A outer s H E hr
 unfold Zdr
 fail "~d j aD as T O a b h c a"
 exact Zco Ziv (Zaa (pv 0)) Zae (Zav _)
theorem ok_law_plays (T:Top K mg):Fn P w K mg base 1 "_law_plays" ["many"] Zcv:=by
 refine(fun h=>h:_->Fn P w K mg base 1 "_law_plays" ["many"] (Za4 1 5 Zdx)) (Za7 (N:=["many","found","turn","more_plays","one"]) (k:=0) T.t_law_plays Zia (by fail "~U1") ?_)
 intro f cdv A outer s H E hr
 unfold Zdx
 have nd:=Zia.nd
 fail "~e"
 refine Za2 (i:=1) ?_ ?_ ?_ ?_
 fail "~g a f z b ae c a e n a Y a b h c a Z g a f e D g a f y e n a at af g a f d D g a f aI z b aL u b ai c a b aL u b ai c a c a a d"
 refine Za2 (i:=1) ?_ ?_ ?_ (Zaa (pv 3))
 fail "~g a f d"
 exact Zb4 (Zaa (pv 1))
theorem ok_law_lost (T:Top K mg):Fn P w K mg base 2 "_law_lost" ["rows","play"] Zcs:=by
 refine(fun h=>h:_->Fn P w K mg base 2 "_law_lost" ["rows","play"] (Za4 2 3 Zes)) (Za7 (N:=["rows","play","row"]) (k:=1) T.t_law_lost Zja (by fail "~U2") ?_)
 intro f cdv A outer s H E hr
 unfold Zes
 fail "~e n a ag Z"
 exact Zja.nd
 fail "~a f d i aq"
 refine Zgc (cn:=["play"]) ?_ (Zcr (x := "literal") (cn:=["play"]) (ci:=[1]) (by decide +kernel)) ?_ ?_ ?_
 fail "~a aA m I t"
 refine Zao (Zh3 T) (hr.mono (by decide)) ?_ ?_
 fail "~a b h b k c a a m h y d 0 d 0"
theorem Zj7 (T:Top K mg):Fn P w K mg base 3 "_law_winners" ["claim"] Ze2:=by
 refine(fun h=>h:_->Fn P w K mg base 3 "_law_winners" ["claim"] (Za4 1 8 Zcn)) (Za7 (N:=["claim","found","play","many","kinds","rows","both_v","other"]) (k:=2) T.t_law_winners Zf7 (by fail "~U1") ?_)
 intro f cdv A outer s H E hr
 unfold Zcn
 have nd:=Zf7.nd
 fail "~e"
 refine Zgj (Zaa (pv 0)) ?_
 fail "~6 a 7 af g a f 8 U g a f e"
 refine Za2 (i:=1) ?_ ?_ ?_ Zli
 fail "~g a f e n a J aM a b l a b r c a c a Z g a f d"
 refine Zgj ?_ ?_
 fail "~G z b s b s c a a ad a b aN a b M b o c a a c a"
 exact Zir (Zaa (pv 1)) (Zaa (pv 2)) (Yct hr.units)
 fail "~e n a"
 refine Zra ?_ T.n_range ?_
 fail "~a b T l a b r c a b"
 exact Zd6 Zcq Zae
 fail "~b"
 exact Zd6 Zcq Zae
 fail "~c a a a 1 g a f d n a J aM a b q c a Z g a f e ah g a f z b"
 refine Zay (Zr3 hr.units) (Zaa (pv 1)) ?_ (fun _ _=>rfl)
 fail "~aK u b ai c a b"
 refine Zay (Zr3 hr.units) (Zaa (pv 1)) ?_ (fun _ _=>rfl)
 fail "~aK u b ai c a c a a e"
 refine Za2 (i:=7) ?_ ?_ ?_ ?_
 fail "~g a f G z b s b s c a a ad a b"
 refine Zco (Zb3 hr.units) ?_ Zbf (Zav _)
 fail "~aO c a d"
 refine Zgj ?_ ?_
 fail "~G z b am b aO c a a ad a b"
 refine Zco (Zke hr.units) ?_ (Zaa (pv 6)) ?_
 fail "~aO B c a"
 exact Zir (Zaa (pv 1)) (Zaa (pv 2)) (Yct hr.units)
 fail "~d"
 exact Zb4 (Zaa (pv 1))
theorem ok_law_whole (T:Top K mg):Fn P w K mg base 1 "_law_whole" ["thing","bound"] Zcf:=by
 refine(fun h=>h:_->Fn P w K mg base 1 "_law_whole" ["thing","bound"] (Za4 2 2 Zds)) (Za7 (N:=["thing","bound"]) (k:=0) T.t_law_whole Zmp (by fail "~U2") ?_)
 intro f cdv A outer s H E hr
 unfold Zds
 fail "~d j 5 L a b h b"
 refine Zh5 ?_ T.n_int Zqv
 fail "~a c a a 5"
 refine Zop ?_
 fail "~L a b h b ar a c a a aj aS B"
theorem Zoy (T:Top K mg):Fn P w K mg base 1 "_law_less" ["kinds","side","row"] Zhq:=by
 refine(fun h=>h:_->Fn P w K mg base 1 "_law_less" ["kinds","side","row"] (Za4 3 7 Zee)) (Za7 (N:=["kinds","side","row","found","k","literal","behind"]) (k:=0) T.t_law_less Zjs (by fail "~U3") ?_)
 intro f cdv A outer s H E hr
 unfold Zee
 have nd:=Zjs.nd
 fail "~e D g a f y e n a"
 refine Zlx ?_ T.n_enumerate ?_
 fail "~a b o c a 6 a 7 af g a f 8 U g a f e"
 refine Zc5 (i:=6) (cn:=["kinds","side"]) ?_ (Zcr (x := "one") (cn:=["kinds","side"]) (ci:=[0,1]) (by decide +kernel)) ?_ ?_ ?_ ?_ ?_ ?_
 fail "~a J"
 refine Zb0 (Zaa (pv 2)) ?_ Zc1
 exact Zf3 (Zaa (pv 4))
 fail "~m I aB as T O a b h c a m h g a a d i"
 refine Zak (Zd9 hr.units) (Zaa (pv 6)) ?_ (Zav _)
 fail "~y d v aP b M c a d j R a b q c a"
theorem Zhe (T:Top K mg):Fn P w K mg base 1 "_law_joined" ["row","other","name"] Zd7:=by
 refine(fun h=>h:_->Fn P w K mg base 1 "_law_joined" ["row","other","name"] (Za4 3 5 Zc3)) (Za7 (N:=["row","other","name","found","one"]) (k:=0) T.t_law_joined Ze0 (by fail "~U3") ?_)
 intro f cdv A outer s H E hr
 unfold Zc3
 fail "~e i C H"
 refine Zak (Zg4 hr.units) (Zaa (pv 2)) (Zaa (pv 0)) ?_
 fail "~B P"
 refine Zak (Zg4 hr.units) ?_ (Zaa (pv 1)) ?_
 exact Zd6 Zcq (Zaa (pv 2))
 fail "~B d x e"
 refine Za2 (i:=3) ?_ ?_ ?_ Zjd
 exact Ze0.nd
 fail "~a f e n a J"
 exact Zat Za9 (Zaa (pv 0)) (Zaa (pv 1))
 fail "~af"
 exact Ze0.nd
 fail "~a f d i aB O a b r c a e i"
 refine Zak iinf ?_ (Zaa (pv 3)) ?_
 exact Zd6 Zcq (Zaa (pv 4))
 fail "~B d x d"
 refine Zgj Zkj ?_
 exact Zir (Zaa (pv 3)) (Zaa (pv 4)) Zz9
 fail "~d j R a b"
 refine Zkm ?_ ?_ T.n_sorted ?_ T.n_abs ?_
 fail "~a a a b q c a c a"
theorem Zn9 (T:Top K mg):Fn P w K mg base 2 "_law_first" ["claim","side","thing"] Zgr:=by
 refine(fun h=>h:_->Fn P w K mg base 2 "_law_first" ["claim","side","thing"] (Za4 3 6 Zdt)) (Za7 (N:=["claim","side","thing","last","literal","row"]) (k:=1) T.t_law_first Zh7 (by fail "~U3") ?_)
 intro f cdv A outer s H E hr
 unfold Zdt
 have nd:=Zh7.nd
 fail "~e i"
 exact Zak (Zb3 hr.units) (Zaa (pv 1)) Zbf (Zav _)
 fail "~e i F t aC a b o b l a b w c a c a a d x d j"
 refine Zay ixf ?_ (Zaa (pv 2)) (fun _ _=>rfl)
 fail "~w e i F t L a b o b"
 refine Zh5 ?_ T.n_tuple Zii
 fail "~a c a a d x e"
 refine Za2 (i:=3) ?_ ?_ ?_ Zae
 fail "~g a f e n a aA af g a f e i C H F t L a b r b"
 refine Zh5 ?_ T.n_int Zqv
 fail "~a c a a P t L a b r b ar a c a a d x e i F"
 refine Zvw Zkw Znh (Zaa (pv 3)) ?_ ?_ ?_
 fail "~O a b r c a l a b w c a B d x d D g a f O a b r c a e n a J w U g a f d i aq"
 refine Zgc (cn:=["thing"]) ?_ (Zcr (x := "literal") (cn:=["thing"]) (ci:=[2]) (by decide +kernel)) ?_ ?_ ?_
 fail "~a"
 exact Zcy (Zaa (pv 5))
 fail "~m I"
 refine Zak (Zke hr.units) (Zaa (pv 0)) (Zaa (pv 1)) ?_
 fail "~B m h y d x d ax"
theorem Zou (T:Top K mg):Fn P w K mg base 3 "_law_step" ["claim","side","made","step"] Zh0:=by
 refine(fun h=>h:_->Fn P w K mg base 3 "_law_step" ["claim","side","made","step"] (Za4 4 5 Zec)) (Za7 (N:=["claim","side","made","step","names"]) (k:=2) T.t_law_step Zjj (by fail "~U4") ?_)
 intro f cdv A outer s H E hr
 unfold Zec
 fail "~e i C H F t L a b q b"
 refine Zh5 ?_ T.n_tuple Zii
 fail "~a c a a H X l a b q c a P F t L a b p b"
 refine Zh5 ?_ T.n_str Ycy
 fail "~a c a a d x e i C Q 3 p Q X l a b q c a V t aC a b p b l a b o c a c a a d j"
 refine Zao (Zoy T) (hr.mono (by decide)) ?_ ?_
 fail "~a b w b k b ab p c a a a e i C Q 3 p V X l a b q c a e"
 refine Zc5 (i:=4) (cn:=["claim","side"]) ?_ (Zcr (x := "k") (cn:=["claim","side"]) (ci:=[0,1]) (by decide +kernel)) ?_ ?_ ?_ ?_ ?_ ?_
 fail "~a Y a b l a b w c a c a m I aB"
 refine Zay ixf ?_ (Zaa (pv 0)) (fun _ _=>rfl)
 fail "~al m"
 exact Zat Za9 (Zaa (pv 0)) Zae
 exact Zjj.nd
 fail "~a a e i"
 refine Zak (Zke hr.units) Zkj ?_ ?_
 refine Zgc (cn:=["made"]) ?_ (Zcr (x := "number") (cn:=["made"]) (ci:=[2]) (by decide +kernel)) ?_ ?_ ?_
 fail "~a J"
 refine Zb0 (Zaa (pv 3)) ?_ ?_
 fail "~9 9 m aa m aC a b h b l a b k c a c a a B d x e i C H F t aC a b p b an l a b w c a c a a P"
 refine Zak (Zg4 hr.units) ?_ (Zaa (pv 4)) ?_
 fail "~p B d x d j"
 refine Zao (Zhe T) (hr.mono (by decide)) ?_ ?_
 fail "~a b ab p b ab p b p c a a a e i C Q aq p G z b s b s c a a ad a b"
 exact Zco (Zb3 hr.units) (Zaa (pv 1)) Zbf (Zav _)
 fail "~c a V X l a b q c a d j"
 refine Zao (Zn9 T) (hr.mono (by decide)) ?_ ?_
 fail "~a b h b k b p c a a a d x"
theorem Zow (T:Top K mg):Fn P w K mg base 2 "_law_term" ["claim","play","some"] Zhl:=by
 refine(fun h=>h:_->Fn P w K mg base 2 "_law_term" ["claim","play","some"] (Za4 3 9 Zel)) (Za7 (N:=["claim","play","some","found","row","here","k","truth","literal"]) (k:=1) T.t_law_term Zjw (by fail "~U3") ?_)
 intro f cdv A outer s H E hr
 unfold Zel
 have nd:=Zjw.nd
 fail "~e D g a f y e n a J w af g a f e"
 refine Zc5 (i:=5) (cn:=["play"]) ?_ (Zcr (x := "literal") (cn:=["play"]) (ci:=[1]) (by decide +kernel)) ?_ ?_ ?_ ?_ ?_ ?_
 fail "~a"
 exact Zcy (Zaa (pv 4))
 fail "~m I t"
 refine Zao (Zh3 T) (hr.mono (by decide)) ?_ ?_
 fail "~a b h b k c a a m h g a a d i aq"
 refine Zgc (cn:=["found"]) ?_ (Zcr (x := "literal") (cn:=["found"]) (ci:=[3]) (by decide +kernel)) ?_ ?_ ?_
 fail "~a"
 exact Zcy (Zaa (pv 5))
 fail "~m I"
 refine Zak (Zke hr.units) (Zaa (pv 0)) (Zaa (pv 1)) ?_
 fail "~B m h y d v aP b"
 refine Zay ixf (Zaa (pv 5)) ?_ (fun _ _=>rfl)
 fail "~4 K l a b M c a c a e n a"
 refine Zlx ?_ T.n_enumerate ?_
 fail "~a b k c a 6 a 7"
 refine Zbl (i:=6) ?_ ?_ ?_
 fail "~g a f 8"
 refine Zbl (i:=7) ?_ ?_ ?_
 fail "~g a f e"
 refine Za2 (i:=8) ?_ ?_ ?_ ?_
 fail "~g a f G z b T"
 exact Zat Zgp Zae (Zaa (pv 6))
 fail "~b"
 exact Zat Za9 (Zaa (pv 6)) Zae
 fail "~c a a ad a b am c a d i C Q X A"
 refine Zat Zf0 ?_ ?_
 fail "~K"
 exact Zat Za9 (Zaa (pv 6)) Zae
 fail "~V"
 refine Zak (Zg4 hr.units) (Zaa (pv 8)) (Zaa (pv 3)) ?_
 fail "~B d v aP b"
 exact(Zaa (pv 8))
 fail "~c a d j R a b"
 refine Zmo ?_ T.n_sorted ?_ T.n_abs ?_
 fail "~a a b q c a c a"
theorem Zhw (T:Top K mg):Fn P w K mg base 3 "_law_drawn_step" ["claim","side","made","kept","some"] Zdf:=by
 refine(fun h=>h:_->Fn P w K mg base 3 "_law_drawn_step" ["claim","side","made","kept","some"] (Za4 5 10 Zbs)) (Za7 (N:=["claim","side","made","kept","some","names","turn","i","j","name"]) (k:=2) T.t_law_drawn_step Zeh (by fail "~U5") ?_)
 intro f cdv A outer s H E hr
 unfold Zbs
 have nd:=Zeh.nd
 fail "~e i C Q X A S V"
 refine Zak (Zd9 hr.units) (Zaa (pv 2)) ?_ (Zav _)
 fail "~y d j u b s b 4 S l a b o c a c a a e i C Q"
 refine Zak Zkw ?_ Zae (Zav _)
 fail "~A S V"
 refine Zak (Zd9 hr.units) (Zaa (pv 2)) ?_ (Zav _)
 fail "~y e"
 refine Zc5 (i:=5) (cn:=["claim","side"]) ?_ (Zcr (x := "k") (cn:=["claim","side"]) (ci:=[0,1]) (by decide +kernel)) ?_ ?_ ?_ ?_ ?_ ?_
 fail "~a Y a b l a b w c a c a m I aB"
 refine Zay ixf ?_ (Zaa (pv 0)) (fun _ _=>rfl)
 fail "~al m"
 exact Zat Za9 (Zaa (pv 0)) Zae
 fail "~g a a d n a Y a b l a b o c a c a"
 refine Zbl (i:=6) ?_ ?_ ?_
 fail "~g a f e"
 refine Za2 (i:=7) ?_ ?_ ?_ ?_
 fail "~g a f 4"
 refine Zat Za9 ?_ (Zaa (pv 6))
 fail "~S l a b o c a e"
 refine Za2 (i:=8) ?_ ?_ ?_ ?_
 fail "~g a f 4 ao S"
 exact Zat Zhh Zae (Zaa (pv 6))
 fail "~l a b o c a d n a"
 exact Zcy (Zaa (pv 5))
 refine Zbl (i:=9) ?_ ?_ ?_
 fail "~g a f d i"
 refine Zak Zpe ?_ Zjm (Zav _)
 refine Zao (Zhe T) (hr.mono (by decide)) ?_ ?_
 fail "~a b"
 exact Zay ixf (Zaa (pv 2)) (Zaa (pv 7)) (fun _ _=>rfl)
 fail "~b"
 exact Zay ixf (Zaa (pv 2)) (Zaa (pv 8)) (fun _ _=>rfl)
 fail "~b aw c a a a d j u b s b am b"
 exact(Zaa (pv 8))
 fail "~b aw c a a a a e i"
 exact Zak (Zb3 hr.units) (Zaa (pv 1)) Zbf (Zav _)
 fail "~e i aq w ae d x d j u b s b 4 S l a b w c a c a a e i"
 refine Zak (Zb3 hr.units) (Zaa (pv 3)) ?_ (Zav _)
 fail "~y d x d j u b s b"
 refine Zao (Zow T) (hr.mono (by decide)) ?_ ?_
 fail "~a b h b aJ 4 S l a b q c a b"
 refine Zb0 (Zaa (pv 4)) ?_ Zc1
 fail "~9 c a a a c a a"
theorem Zgx (T:Top K mg):Fn P w K mg base 4 "_law_drawn_steps" ["claim","side","script","at","many"] Zct:=by
 refine(fun h=>h:_->Fn P w K mg base 4 "_law_drawn_steps" ["claim","side","script","at","many"] (Za4 5 11 Zbm)) (Za7 (N:=["claim","side","script","at","many","steps","made","kept","k","some","step"]) (k:=3) T.t_law_drawn_steps Zd4 (by fail "~U5") ?_)
 intro f cdv A outer s H E hr
 unfold Zbm
 have nd:=Zd4.nd
 fail "~e av g a f y e ah g a f y e"
 refine Zc5 (i:=7) (cn:=["claim"]) ?_ (Zcr (x := "play") (cn:=["claim"]) (ci:=[0]) (by decide +kernel)) ?_ ?_ ?_ ?_ ?_ ?_
 fail "~a J aM a b l a b w c a c a m I F t aN a b al b h c a a m h g a a e n a Y a b r c a"
 refine Zbl (i:=8) ?_ ?_ ?_
 fail "~g a f e"
 refine Za2 (i:=9) ?_ ?_ ?_ ?_
 fail "~g a f"
 refine Zb0 ?_ ?_ Zc1
 fail "~ay a b az a b o b"
 exact Zat Za9 (Zaa (pv 3)) (Zaa (pv 8))
 fail "~c a a b E c a a 9 e"
 refine Za2 (i:=10) ?_ ?_ ?_ ?_
 fail "~g a f"
 refine Zao (Zhw T) (hr.mono (by decide)) ?_ ?_
 fail "~a b h b k b ac b am b aw c a a a a a d i"
 exact Zak Zpe (Zaa (pv 10)) Zjm (Zav _)
 fail "~e v"
 refine Zki Uk Ul Zdp (Zaa (pv 5)) ?_
 fail "~b"
 exact(Zaa (pv 10))
 fail "~c a d v"
 refine Zki Uk Ul Zdp (Zaa (pv 6)) ?_
 fail "~b"
 refine Zao (Zou T) (hr.mono (by decide)) ?_ ?_
 fail "~a b h b k b ac b"
 exact(Zaa (pv 10))
 fail "~c a a a a c a d"
 exact Zb4 (Zaa (pv 5))
theorem Zl9 (T:Top K mg):Fn P w K mg base 1 "_law_behind" ["steps","many"] Zfu:=by
 refine(fun h=>h:_->Fn P w K mg base 1 "_law_behind" ["steps","many"] (Za4 2 4 Zdc)) (Za7 (N:=["steps","many","found","step"]) (k:=0) T.t_law_behind Zeu (by fail "~U2") ?_)
 intro f cdv A outer s H E hr
 unfold Zdc
 fail "~e 2"
 exact Zeu.nd
 fail "~a f y e n a ag 1"
 exact Zeu.nd
 fail "~a f d ak 3 p d v W b u b s b aQ p c a a c a d ak 3 p d v W b u b s b aQ p b aQ p b p c a a a a c a d v W b q c a d ax"
theorem Zld (T:Top K mg):Fn P w K mg base 8 "_law_played" ["claim","steps"] Zfx:=by
 refine(fun h=>h:_->Fn P w K mg base 8 "_law_played" ["claim","steps"] (Za4 2 7 Zc9)) (Za7 (N:=["claim","steps","plays","kind","more_plays","play","truth"]) (k:=7) T.t_law_played Zg6 (by fail "~U2") ?_)
 intro f cdv A outer s H E hr
 unfold Zc9
 have nd:=Zg6.nd
 fail "~e 2 g a f z b ae c a e n a J w 1 g a f e N g a f y e n a aA U g a f d ak"
 exact Zak (Zb3 hr.units) (Zaa (pv 3)) Zbf (Zav _)
 fail "~e ah g a f"
 refine Zao (Zpk T) (hr.mono (by decide)) ?_ ?_
 fail "~a b h b k b M c a a a e i F t L a b ac b ar a c a a d 0 d v aG b aR u b ac c a c a d N g a f aL z b aR u b ai c a b aR u b ai c a c a a d"
 refine Za2 (i:=2) ?_ ?_ ?_ (Zaa (pv 4))
 fail "~g a f d j aD"
 refine Zgc (cn:=["claim"]) ?_ (Zcr (x := "play") (cn:=["claim"]) (ci:=[0]) (by decide +kernel)) ?_ ?_ ?_
 fail "~a aA m I"
 refine Zak (Zd9 hr.units) ?_ Zkj (Zav _)
 fail "~aN a b al b h c a a m h y"
theorem Zrt (T:Top K mg):Fn P w K mg base 4 "_law_won" ["claim"] Zju:=by
 refine(fun h=>h:_->Fn P w K mg base 4 "_law_won" ["claim"] (Za4 1 5 Zfv)) (Za7 (N:=["claim","swapped","other","kinds","rows"]) (k:=3) T.t_law_won Zks (by fail "~U1") ?_)
 intro f cdv A outer s H E hr
 unfold Zfv
 have nd:=Zks.nd
 fail "~e"
 refine Zgj (Zaa (pv 0)) ?_
 fail "~6 a 7 1 g a f 8 af g a f e"
 refine Za2 (i:=1) ?_ ?_ ?_ ?_
 fail "~g a f R a b"
 refine Zgc (cn:=[]) ?_ (Zcr (x := "kind") (cn:=[]) (ci:=[]) (by decide +kernel)) ?_ ?_ ?_
 fail "~a"
 exact Zcy (Zaa (pv 3))
 fail "~m aa m G z b s b s c a a ad a b"
 exact Zco (Zb3 hr.units) (Zaa (pv 0)) Zbf (Zav _)
 fail "~c a c a e n a J z b h b u b k b r c a a b u b q b"
 refine Zb0 (Zaa (pv 4)) Zc1 ?_
 refine Zf3 ?_
 refine Zat Zf0 ?_ Zae
 fail "~l a b r c a c a a b u b k b"
 refine Zb0 (Zaa (pv 4)) ?_ Zc1
 refine Zf3 ?_
 refine Zat Zf0 ?_ Zae
 fail "~l a b r c a c a a c a a a a Z g a f d i 3"
 refine Zay (Zr3 hr.units) ?_ ?_ (fun _ _=>rfl)
 refine Zao (Zj7 T) (hr.mono (by decide)) ?_ ?_
 fail "~a b o c a ae d ax d j u b q b ae c a a"
theorem Zhv (T:Top K mg):ClOk P w K mg base 4 "term_paper" "claim" 2 Zdh:=by
 refine(fun h=>h:_->ClOk P w K mg base 4 "term_paper" "claim" 2 (Yb9 2 4 Zbu)) (fn_cl (N:=["tree","play","claim","term"]) (k:=3) (st:=Ze4) (T.t_term_paper.first rfl) Zef (fun _ _ _ _ _ _ _ us hl=>by obtain⟨_,_,rfl⟩:=us2 hl; rfl) ?_)
 intro qual f cdv c A outer s H hr
 unfold Zbu
 fail "~e D"
 exact Zef.nd
 fail "~a f"
 refine Zao (Zj3 T) (hr.mono (by decide)) ?_ ?_
 fail "~a b K b k c a a d j u b u b s b q c a a b q c a a"
theorem Zj6 (T:Top K mg):Fn P w K mg base 25 "plan_behind" ["kinds","rows","many"] (Zei 3 4 3 7 Za0 Zar 22).1/\Fn P w K mg base 25 "plan_by_picks" ["kinds","rows","many"] (Zei 3 4 3 7 Za0 Zar 22).2:=by
 refine(fun h=>h:_->Fn P w K mg base 25 "plan_behind" ["kinds","rows","many"] (Zei 3 4 3 7 Za0 Zar 22).1/\Fn P w K mg base 25 "plan_by_picks" ["kinds","rows","many"] (Zei 3 4 3 7 Za0 Zar 22).2) (Zoo (N1:=["kinds","rows","many","number"]) (N2:=["kinds","rows","many","who","trees","truth","told"]) (k:=2) T.t_plan_behind Zf8 (fun _ _ _ _ _ _ us hl=>by obtain⟨_,_,_,rfl⟩:=us3 hl; rfl) T.t_plan_by_picks Zbt (fun _ _ _ _ _ _ us hl=>by obtain⟨_,_,_,rfl⟩:=us3 hl; rfl) ?_ ?_ 22)
 ·intro F1 F2 j G1 G2 f cdv A outer s H E hr
  unfold Za0
  refine Zam ?_ ?_
  refine Zh4 ?_ ?_ Za5
  refine Zak (Zb3 hr.units) ?_ Zae (Zav _)
  refine Zb8 Zsg ?_ T.n_len Zpx ?_
  rfl
  refine Zax ?_ ?_ ?_
  exact(Zaa (pv 1))
  exact Za3
  rfl
  refine Zam ?_ Za5
  refine Zb4 ?_
  refine Zcw ?_
  refine Zax ?_ ?_ ?_
  exact Zbf
  refine Zax ?_ ?_ ?_
  refine Zcw ?_
  refine Zax ?_ ?_ ?_
  exact Zbf
  exact Za3
  rfl
  exact Za3
  rfl
  rfl
  refine Zam ?_ ?_
  refine Za2 (i:=3) ?_ ?_ ?_ ?_
  exact Zf8.nd
  rfl
  first | exact Tba rfl | exact Tau rfl
  refine Zao (Zhz T) (hr.mono (by omega)) ?_ ?_
  rfl
  refine Zax ?_ ?_ ?_
  exact(Zaa (pv 0))
  refine Zax ?_ ?_ ?_
  exact(Zaa (pv 1))
  exact Za3
  rfl
  rfl
  refine Zam ?_ ?_
  refine Zh4 ?_ ?_ Za5
  exact Zak Zpe (Zaa (pv 3)) Zjm (Zav _)
  refine Zam ?_ Za5
  refine Zb4 ?_
  refine Zcw ?_
  refine Zax ?_ ?_ ?_
  exact Zbf
  refine Zax ?_ ?_ ?_
  refine Zcw ?_
  refine Zax ?_ ?_ ?_
  exact Zbf
  refine Zax ?_ ?_ ?_
  exact(Zaa (pv 3))
  exact Za3
  rfl
  rfl
  exact Za3
  rfl
  rfl
  refine Zam ?_ Za5
  refine Zb4 ?_
  refine Zao G2 (hr.mono (Xd _)) ?_ ?_
  rfl
  refine Zax ?_ ?_ ?_
  exact(Zaa (pv 0))
  refine Zax ?_ ?_ ?_
  exact(Zaa (pv 1))
  refine Zax ?_ ?_ ?_
  exact(Zaa (pv 2))
  exact Za3
  rfl
  rfl
  rfl
 ·intro F1 F2 j G1 G2 f cdv A outer s H E hr
  unfold Zar
  refine Zam ?_ ?_
  refine Za2 (i:=3) ?_ ?_ ?_ ?_
  exact Zbt.nd
  rfl
  first | exact Tba rfl | exact Tau rfl
  exact Zay ixf (Zaa (pv 0)) (Zaa (pv 2)) (fun _ _=>rfl)
  refine Zam ?_ ?_
  refine Za2 (i:=4) ?_ ?_ ?_ ?_
  exact Zbt.nd
  rfl
  first | exact Tba rfl | exact Tau rfl
  exact Zon Za3
  refine Zam ?_ ?_
  refine Zpb Tbd ?_ ?_ ?_ ?_
  rfl
  refine Zcy ?_
  refine Zvu ?_ T.c_TRUTHS
  rfl
  refine Zbl (i:=5) ?_ ?_ ?_
  exact Zbt.nd
  rfl
  first | exact Tba rfl | exact Tau rfl
  refine Zam ?_ ?_
  refine Za2 (i:=6) ?_ ?_ ?_ ?_
  exact Zbt.nd
  rfl
  first | exact Tba rfl | exact Tau rfl
  refine Zao G1 (hr.mono (Xd _)) ?_ ?_
  rfl
  refine Zax ?_ ?_ ?_
  exact(Zaa (pv 0))
  refine Zax ?_ ?_ ?_
  refine Zao (Zkc T) (hr.mono (by omega)) ?_ ?_
  rfl
  refine Zax ?_ ?_ ?_
  exact(Zaa (pv 1))
  refine Zax ?_ ?_ ?_
  exact Zat Za9 (Zaa (pv 2)) Zae
  refine Zax ?_ ?_ ?_
  exact(Zaa (pv 5))
  exact Za3
  rfl
  rfl
  rfl
  refine Zax ?_ ?_ ?_
  exact Zat Za9 (Zaa (pv 2)) Zae
  exact Za3
  rfl
  rfl
  rfl
  refine Zam ?_ ?_
  refine Zh4 ?_ ?_ Za5
  refine Zak (Zb3 hr.units) ?_ (Zaa (pv 3)) (Zav _)
  exact Zay ixf (Zaa (pv 6)) Zae (fun _ _=>rfl)
  refine Zam ?_ Za5
  refine Zb4 ?_
  refine Zcw ?_
  refine Zax ?_ ?_ ?_
  exact(Zaa (pv 3))
  refine Zax ?_ ?_ ?_
  refine Zcw ?_
  refine Zax ?_ ?_ ?_
  exact Zbf
  refine Zax ?_ ?_ ?_
  exact(Zaa (pv 5))
  refine Zax ?_ ?_ ?_
  exact Zay ixf (Zaa (pv 6)) Zae (fun _ _=>rfl)
  exact Za3
  rfl
  rfl
  rfl
  exact Za3
  rfl
  rfl
  refine Zam ?_ Za5
  refine Zex ?_
  refine Zki Uk Ul Zdp (Zaa (pv 4)) ?_
  refine Zax ?_ ?_ ?_
  exact Zay ixf (Zaa (pv 6)) Zae (fun _ _=>rfl)
  exact Za3
  rfl
  refine Zam ?_ Za5
  refine Zb4 ?_
  refine Zcw ?_
  refine Zax ?_ ?_ ?_
  refine Zao (Zl8 T) (hr.mono (by omega)) ?_ ?_
  rfl
  refine Zax ?_ ?_ ?_
  exact(Zaa (pv 3))
  exact Za3
  rfl
  refine Zax ?_ ?_ ?_
  refine Zcw ?_
  refine Zax ?_ ?_ ?_
  exact Zbf
  refine Zax ?_ ?_ ?_
  exact Zay ixf (Zaa (pv 4)) Zae (fun _ _=>rfl)
  refine Zax ?_ ?_ ?_
  exact Zay ixf (Zaa (pv 4)) Zae (fun _ _=>rfl)
  exact Za3
  rfl
  rfl
  rfl
  exact Za3
  rfl
  rfl
theorem Yak (T:Top K mg):Fn P w K mg base 26 "plan" ["claim"] Zv5:=by
 refine(fun h=>h:_->Fn P w K mg base 26 "plan" ["claim"] (Za4 1 1 Zm2)) (Za7 (N:=["claim"]) (k:=25) T.t_plan Ybm (by fail "~U1") ?_)
 intro f cdv A outer s H E hr
 unfold Zm2
 fail "~d j"
 refine Zao (Zj6 T).1 (hr.mono (by decide)) ?_ ?_
 fail "~a b w b"
 refine Zao (Zie T) (hr.mono (by decide)) ?_ ?_
 fail "~a b w c a b E c a a a"
theorem Zo8 (T:Top K mg):Fn P w K mg base 27 "put_tree" ["kinds","side","end","pairs","tree","play"] (Zei 6 7 6 13 Zau Zaw 22).1/\Fn P w K mg base 27 "put_each" ["kinds","side","end","pairs","tree","play"] (Zei 6 7 6 13 Zau Zaw 22).2:=by
 refine(fun h=>h:_->Fn P w K mg base 27 "put_tree" ["kinds","side","end","pairs","tree","play"] (Zei 6 7 6 13 Zau Zaw 22).1/\Fn P w K mg base 27 "put_each" ["kinds","side","end","pairs","tree","play"] (Zei 6 7 6 13 Zau Zaw 22).2) (Zoo (N1:=["kinds","side","end","pairs","tree","play","told"]) (N2:=["kinds","side","end","pairs","tree","play","name","numbers","one","other","truth","branch","row"]) (k:=4) T.t_put_tree Zi0 (fun _ _ _ _ _ _ us hl=>by obtain⟨_,_,_,_,_,_,rfl⟩:=us6 hl; rfl) T.t_put_each Zb1 (fun _ _ _ _ _ _ us hl=>by obtain⟨_,_,_,_,_,_,rfl⟩:=us6 hl; rfl) ?_ ?_ 22)
 ·intro F1 F2 j G1 G2 f cdv A outer s H E hr
  unfold Zau
  refine Zam ?_ Za5
  refine Zh4 ?_ ?_ ?_
  refine Zak (Zb3 hr.units) ?_ Zbf (Zav _)
  exact Zay ixf (Zaa (pv 4)) Zae (fun _ _=>rfl)
  refine Zam ?_ Za5
  refine Zex ?_
  refine Zao G1 (hr.mono (Xd _)) ?_ ?_
  rfl
  refine Zax ?_ ?_ ?_
  exact(Zaa (pv 0))
  refine Zax ?_ ?_ ?_
  exact(Zaa (pv 1))
  refine Zax ?_ ?_ ?_
  exact(Zaa (pv 2))
  refine Zax ?_ ?_ ?_
  exact(Zaa (pv 3))
  refine Zax ?_ ?_ ?_
  exact Zay ixf (Zaa (pv 4)) Zae (fun _ _=>rfl)
  refine Zax ?_ ?_ ?_
  refine Zat Za9 (Zaa (pv 5)) ?_
  refine Zcw ?_
  refine Zax ?_ ?_ ?_
  exact Zay ixf (Zaa (pv 4)) Zae (fun _ _=>rfl)
  exact Za3
  rfl
  exact Za3
  rfl
  rfl
  rfl
  rfl
  rfl
  rfl
  refine Zam ?_ Za5
  refine Zh4 ?_ ?_ ?_
  refine Zak (Zb3 hr.units) ?_ Zbf (Zav _)
  exact Zay ixf (Zaa (pv 4)) Zae (fun _ _=>rfl)
  refine Zam ?_ Za5
  refine Zex ?_
  refine Zao G2 (hr.mono (Xd _)) ?_ ?_
  rfl
  refine Zax ?_ ?_ ?_
  exact(Zaa (pv 0))
  refine Zax ?_ ?_ ?_
  exact(Zaa (pv 1))
  refine Zax ?_ ?_ ?_
  exact(Zaa (pv 2))
  refine Zax ?_ ?_ ?_
  exact(Zaa (pv 3))
  refine Zax ?_ ?_ ?_
  exact(Zaa (pv 4))
  refine Zax ?_ ?_ ?_
  exact(Zaa (pv 5))
  exact Za3
  rfl
  rfl
  rfl
  rfl
  rfl
  rfl
  refine Zam ?_ ?_
  refine Za2 (i:=6) ?_ ?_ ?_ ?_
  exact Zi0.nd
  rfl
  first | exact Tba rfl | exact Tau rfl
  refine Zvg (i:=2) (Zhv T) (hr.mono (by omega)) (pv 2) ?_
  refine Zax ?_ ?_ ?_
  exact(Zaa (pv 4))
  refine Zax ?_ ?_ ?_
  exact(Zaa (pv 5))
  exact Za3
  rfl
  rfl
  refine Zam ?_ Za5
  refine Zex ?_
  refine Zao (Zjy T) (hr.mono (by omega)) ?_ ?_
  rfl
  refine Zax ?_ ?_ ?_
  exact(Zaa (pv 0))
  refine Zax ?_ ?_ ?_
  exact(Zaa (pv 1))
  refine Zax ?_ ?_ ?_
  exact(Zaa (pv 3))
  refine Zax ?_ ?_ ?_
  exact Zay ixf (Zaa (pv 6)) Zae (fun _ _=>rfl)
  refine Zax ?_ ?_ ?_
  exact Zay ixf (Zaa (pv 6)) Zae (fun _ _=>rfl)
  exact Za3
  rfl
  rfl
  rfl
  rfl
  rfl
 ·intro F1 F2 j G1 G2 f cdv A outer s H E hr
  unfold Zaw
  refine Zam ?_ ?_
  refine Za2 (i:=6) ?_ ?_ ?_ ?_
  exact Zb1.nd
  rfl
  first | exact Tba rfl | exact Tau rfl
  refine Zat Za9 ?_ Zae
  refine Zb8 Zjg ?_ T.n_len Zpx ?_
  rfl
  refine Zax ?_ ?_ ?_
  exact(Zaa (pv 5))
  exact Za3
  rfl
  refine Zam ?_ ?_
  refine Za2 (i:=7) ?_ ?_ ?_ Zjd
  exact Zb1.nd
  rfl
  first | exact Tba rfl | exact Tau rfl
  refine Zam ?_ ?_
  refine Zpb Tbd ?_ ?_ ?_ ?_
  rfl
  refine Zpw ?_ T.n_zip ?_
  rfl
  refine Zax ?_ ?_ ?_
  refine Zvu ?_ T.c_TRUTHS
  rfl
  refine Zax ?_ ?_ ?_
  refine Zb0 (Zaa (pv 4)) ?_ Zc1
  exact Zf3 Zae
  exact Za3
  rfl
  rfl
  refine Zv7 ?_ ?_
  rfl
  refine Zg0 ?_ ?_
  refine Zbl (i:=10) ?_ ?_ ?_
  exact Zb1.nd
  rfl
  first | exact Tba rfl | exact Tau rfl
  refine Zg0 ?_ Zpt
  refine Zbl (i:=11) ?_ ?_ ?_
  exact Zb1.nd
  rfl
  first | exact Tba rfl | exact Tau rfl
  refine Zam ?_ ?_
  refine Zex ?_
  refine Zao G1 (hr.mono (Xd _)) ?_ ?_
  rfl
  refine Zax ?_ ?_ ?_
  exact(Zaa (pv 0))
  refine Zax ?_ ?_ ?_
  exact(Zaa (pv 1))
  refine Zax ?_ ?_ ?_
  exact(Zaa (pv 2))
  refine Zax ?_ ?_ ?_
  exact(Zaa (pv 3))
  refine Zax ?_ ?_ ?_
  exact(Zaa (pv 11))
  refine Zax ?_ ?_ ?_
  refine Zat Za9 (Zaa (pv 5)) ?_
  refine Zcw ?_
  refine Zax ?_ ?_ ?_
  exact(Zaa (pv 10))
  exact Za3
  rfl
  exact Za3
  rfl
  rfl
  rfl
  rfl
  rfl
  rfl
  refine Zam ?_ ?_
  refine Za2 (i:=12) ?_ ?_ ?_ ?_
  exact Zb1.nd
  rfl
  first | exact Tba rfl | exact Tau rfl
  refine Zay ixf ?_ Zae (fun _ _=>rfl)
  refine Zay ixf (Zaa (pv 3)) ?_ (fun _ _=>rfl)
  exact Zd6 Zcq Zae
  refine Zam ?_ ?_
  refine Zh4 ?_ ?_ Za5
  refine PWf.pt ?_
  refine Zt2 ?_ ?_
  refine Zak (Zg4 hr.units) (Zaa (pv 6)) (Zaa (pv 12)) ?_
  with_unfolding_all rfl
  refine Zqk ?_
  refine Zak (Zg4 hr.units) ?_ (Zaa (pv 12)) ?_
  exact Zd6 Zcq (Zaa (pv 6))
  with_unfolding_all rfl
  exact Zam Zxv Za5
  refine Zam ?_ Za5
  refine Zgj ?_ ?_
  refine Zat Zgp ?_ Zae
  refine Zb8 Zjg ?_ T.n_len Zpx ?_
  rfl
  refine Zax ?_ ?_ ?_
  exact(Zaa (pv 3))
  exact Za3
  rfl
  refine Zir (Zaa (pv 7)) ?_ Zz9
  refine Zay ixf (Zaa (pv 12)) ?_ (fun _ _=>rfl)
  exact Zd6 Zcq Zae
  refine Zam ?_ ?_
  refine Za2 (i:=8) ?_ ?_ ?_ ?_
  exact Zb1.nd
  rfl
  first | exact Tba rfl | exact Tau rfl
  exact Zay Ydt (Zaa (pv 7)) (Zaa (pv 6)) (fun _ _=>rfl)
  refine Zam ?_ ?_
  refine Za2 (i:=9) ?_ ?_ ?_ ?_
  exact Zb1.nd
  rfl
  first | exact Tba rfl | exact Tau rfl
  refine Zay Ydt (Zaa (pv 7)) ?_ (fun _ _=>rfl)
  exact Zd6 Zcq (Zaa (pv 6))
  refine Zam ?_ Za5
  refine Zex ?_
  refine Zao (Zjy T) (hr.mono (by omega)) ?_ ?_
  rfl
  refine Zax ?_ ?_ ?_
  exact(Zaa (pv 0))
  refine Zax ?_ ?_ ?_
  exact(Zaa (pv 1))
  refine Zax ?_ ?_ ?_
  exact(Zaa (pv 3))
  refine Zax ?_ ?_ ?_
  refine Zcw ?_
  refine Zax ?_ ?_ ?_
  exact Zbf
  refine Zax ?_ ?_ ?_
  exact(Zaa (pv 8))
  refine Zax ?_ ?_ ?_
  exact(Zaa (pv 9))
  refine Zax ?_ ?_ ?_
  exact(Zaa (pv 6))
  exact Za3
  rfl
  rfl
  rfl
  rfl
  refine Zax ?_ ?_ ?_
  refine Zao (Zmm T) (hr.mono (by omega)) ?_ ?_
  rfl
  refine Zax ?_ ?_ ?_
  refine Zay ixf ?_ Zae (fun _ _=>rfl)
  exact Zay ixf (Zaa (pv 3)) (Zaa (pv 8)) (fun _ _=>rfl)
  refine Zax ?_ ?_ ?_
  refine Zay ixf ?_ Zae (fun _ _=>rfl)
  exact Zay ixf (Zaa (pv 3)) (Zaa (pv 9)) (fun _ _=>rfl)
  refine Zax ?_ ?_ ?_
  exact(Zaa (pv 6))
  exact Za3
  rfl
  rfl
  rfl
  exact Za3
  rfl
  rfl
  rfl
  rfl
  rfl
theorem Zw3 (T:Top K mg):Fn P w K mg base 28 "paper" ["claim","side","end"] Zov:=by
 refine(fun h=>h:_->Fn P w K mg base 28 "paper" ["claim","side","end"] (Za4 3 5 Zjp)) (Za7 (N:=["claim","side","end","told","pairs"]) (k:=27) T.t_paper Zll (by fail "~U3") ?_)
 intro f cdv A outer s H E hr
 unfold Zjp
 fail "~e D"
 exact Zll.nd
 fail "~a f"
 refine Zao (Yak T) (hr.mono (by decide)) ?_ ?_
 fail "~a b h c a e i"
 refine Zak (Zd9 hr.units) ?_ (Zaa (pv 1)) (Zav _)
 fail "~p"
 exact Zam Zv0 Za5
 fail "~e N"
 exact Zll.nd
 fail "~a f y e v"
 refine Zao (Zo8 T).1 (hr.mono (by decide)) ?_ ?_
 fail "~a b w b k b o b r b p b ae c a a a a a a d j"
 refine Ybu (cn:=[]) ?_ (Ya9 (x := "step") (y0 := "row") (cn:=[]) (ci:=[]) (by decide +kernel)) ?_ ?_ ?_
 fail "~a"
 exact Zcy (Zaa (pv 4))
 fail "~m aa m h"
theorem Zl1 (T:Top K mg) (NB_term_paper:Zvi K mg base "term_paper"):Fn P w K mg base 29 "term_paper" ["claim"] Zfp:=by
 refine(fun h=>h:_->Fn P w K mg base 29 "term_paper" ["claim"] (Za4 1 2 Zc4)) (Yc7 (N:=["claim","end"]) (k:=28) T.t_term_paper NB_term_paper Zha (by fail "~U1") ?_)
 intro f c TT A outer s H E ht hC hB hr hnew
 unfold Zc4
 fail "~e"
 refine Ya2 (n := "term_paper") (x := "claim") (i:=1) (j:=0) (t:=0) (cx:=s.heap.objs.size+1) (T.t_term_paper.first rfl) (fun _=>rfl) Zha.nd rfl rfl rfl rfl rfl ht hC hB rfl (by with_unfolding_all rfl) (by with_unfolding_all rfl) (hnew "claim" _ (by with_unfolding_all rfl)) rfl rfl rfl
 fail "~d j"
 refine Zao (Zw3 T) (hr.mono (by decide)) ?_ ?_
 fail "~a b h b s b k c a a a"
theorem Yej (T:Top K mg) (NB_term_paper:Zvi K mg base "term_paper"):Fn P w K mg base 30 "law" ["script"] Zrx:=by
 refine(fun h=>h:_->Fn P w K mg base 30 "law" ["script"] (Za4 1 7 Ztm)) (Za7 (N:=["script","claim","some","ahead","told","steps","stays"]) (k:=29) T.t_law Zzr (by fail "~U1") ?_)
 intro f cdv A outer s H E hr
 unfold Ztm
 have nd:=Zzr.nd
 fail "~e"
 refine Za2 (i:=1) ?_ ?_ ?_ ?_
 fail "~g a f"
 refine Zao (Zrt T) (hr.mono (by decide)) ?_ ?_
 fail "~a b"
 refine Zao (Zni T) (hr.mono (by decide)) ?_ ?_
 fail "~a b h b E c a a c a e 2 g a f"
 refine Zb0 ?_ ?_ Zc1
 fail "~ay a b az a b h b E c a a b E c a a 9 e D g a f"
 refine Zao (Zgx T) (hr.mono (by decide)) ?_ ?_
 fail "~a b k b s b h b E b A K c a a a a a e N g a f"
 refine Zao (Zl1 T NB_term_paper) (hr.mono (by decide)) ?_ ?_
 fail "~a b k c a e n a J z b r b aI"
 refine Zao (Zl9 T) (hr.mono (by decide)) ?_ ?_
 fail "~a b r b l a b q c a c a a c a a U g a f e ah g a f"
 refine Zf5 Zkv ?_ T.n_list Ztw ?_
 fail "~a b M c a d i C H F t"
 refine Zao (Zld T) (hr.mono (by decide)) ?_ ?_
 fail "~a b k b M c a a P"
 exact Zak (Zd9 hr.units) (Zaa (pv 5)) (Zaa (pv 6)) (Zav _)
 fail "~d 0 d 0"
theorem Ydz (T:Top K mg) (NB_term_paper:Zvi K mg base "term_paper"):Fn P w K mg base 30 "law" ["script"] Zrx:=by
 exact Yej T NB_term_paper
end
theorem walk {l:Tcn} {q:Vi} {loose:List Str} {XP:(Str->Option Vb)->Uaa->Prop} {YP:Vu->Uaa->Prop} {d:DefRec} {K:Params->Xb} (hn:l.most=some 63) (hdf:d.params.defaults=[])
  (hd:d.name = "law") (hY:∀ (w:Vu) (h:Uaa),YP w h->(K w.params).In h) (hrec:∀ n∈(["term_paper"]:List String),((PyProof.Rows.recsOf q).find? (fun e=>e.name==Ua n)).isSome=true) (hT:∀ (w:Vu) (mg:Str->Option Vb) (h:Uaa),(K w.params).In h->h.Ns Vl mg->Top (K w.params) mg/\∃ tabs,Tabs (K w.params) ["term_paper"] tabs)
  (pure:∀ ns:List Int,ns.length<=63->∃ Hd',Zrx [.fl (ns.map .int)] (Zfj ["term_paper"])=some (.bl true,Hd')):Wgd q loose XP YP l.row.toRowW d [] (fun f vs=>Tct f vs):=by
 refine Zxn (k:=30) (x := "script") (G:=Zrx) (names:=["term_paper"]) hn hdf ⟨rfl,by decide,by decide,rfl⟩ hY hrec (fun w mg h KX G=>(hT w mg h KX G).2) (fun w mg fa h KX G hmg=>?_) pure
 have T:=(hT w mg h KX G).1
 obtain⟨f,fd,F,hm⟩:=T.t_law
 have e0:f=fa:=by rw[hd] at hmg; rw[hm] at hmg; cases hmg; rfl
 subst e0
 have B:=F.binds (ps:=["script"]) (fun _ _ _ _ _ _ us hl=>by obtain⟨_,rfl⟩:=us1 hl; rfl)
 refine⟨fd,fun s u=>?_,fun base kb nb NB=>?_⟩
 ·obtain⟨oc,od,kV,doc,pm,an,cdv,ct,osl,rfl,lk,hcd⟩:=F.ex
  exact .of_eq rfl
 ·obtain⟨f',fd',G1,hb,hk,hm',oc',od',osl',lk'⟩:=(Ydz (P:=l.prog) (w:=w) (base:=base) T (NB "term_paper" (by simp))).ex
  have e1:f'=f:=by rw[hm] at hm'; cases hm'; rfl
  subst e1
  have e2:fd'=fd:=by
   obtain⟨oc,od,kV,doc,pm,an,cdv,ct,osl,e3,lk,hcd⟩:=F.ex
   rw[lk] at lk'
   have e4:=Wac.inj lk'
   injection e4 with _ _ e5 _
   injection e5 with e6
   exact e6.symm
  subst e2
  exact G1
end K08
open PySem PySem.W PyProof.Rows L2 DL
local macro_rules | `(tactic| fail $s:str)=>do
 if s.getString.take 1 != "=" then Lean.Macro.throwUnsupported
 let i:=Lean.mkIdent
 match (s.getString.drop 1).toString with
  | "T" => `(tactic| (show Tf (L2.KOf $(i `KX)) _ _ _; dsimp only[L2.KOf]; refine' tf_mk $(i `KX) $(i `G) ?a ?l ?c ?k; (case a=>k_is); (case l=>k_is); (case c=>k_is); (case k=>k_is)))
  | "N" => `(tactic| (refine' PySem.W.mg_none_of $(i `KX) $(i `G) ?z; (case z=>k_is)))
  | _=>Lean.Macro.throwUnsupported
set_option maxRecDepth 100000 in
set_option maxHeartbeats 0 in
theorem PySem.Challenge.cw_allsome_k34_played_by_term_papers_holds : PySem.Challenge.rw_allsome_k34_played_by_term_papers.Holds := by
 w_on; o_law; refine holds_open (q:=(PySem.Challenge.vwOf PySem.Challenge.pw_allsome_k34_played_by_term_papers)) (loose:=[]) (Xt:=PySem.Challenge.xt0) (XP:=XL (PySem.Challenge.vwOf PySem.Challenge.pw_allsome_k34_played_by_term_papers) []) (Yf:=Hook.obs PySem.Challenge.hk0) (Ya:=Hook.val PySem.Challenge.hk0) (YP:=InK PySem.Challenge.mk0.heap_39) (N:=5068) PySem.Challenge.left0 (Hook.of PySem.Challenge.hk0) (Hook.keeps PySem.Challenge.hk0) (fun s e=>xl_of s (Wev.mp e).1) XL.keeps (by rfl) (by rfl) (by rfl) (fun s e=>recFacts_of (Wev.mp e).2) (by rfl) (by assumption) (by decide +kernel) ⟨rfl,rfl,rfl,rfl,rfl,by decide +kernel⟩ ?hw ?hc
 (case hw=>w_witness2)
 k_fill
 refine K08.walk (l:=PySem.Challenge.rw_allsome_k34_played_by_term_papers) rfl rfl rfl (fun w h Y=>Y) ?R ?T K08.pure_law
 case R=>decide +kernel
 case T =>
  intro w mg h KX G
  have t_term_paper:Tn (L2.KOf KX) mg "term_paper" K08.s_term_paper:=by
   dsimp only[L2.KOf]
   refine' tn_mk KX G ?a ?l ?c ?k ?m ?v
   (case a=>k_is); (case l=>k_is); (case c=>k_is); (case k=>k_is); (case m=>k_is); (case v=>rfl)
  have c_TRUTHS:Gc (L2.KOf KX) mg "TRUTHS" K08.k_TRUTHS:=by
   dsimp only[L2.KOf]
   refine' Zt8 KX G ?a ?l
   (case a=>k_is); (case l=>k_is)
  have v_told_term:Fv (L2.KOf KX) mg "told_term" := by
   dsimp only[L2.KOf]
   refine' fv_mk KX G ?za
   (case za=>k_is)
  refine' ⟨⟨by fail "=T",by fail "=T",by fail "=T",by fail "=T",by fail "=T",by fail "=T",by fail "=T",by fail "=T",by fail "=T",by fail "=T",by fail "=T",by fail "=T",by fail "=T",by fail "=T",by fail "=T",by fail "=T",by fail "=T",by fail "=T",by fail "=T",by fail "=T",by fail "=T",by fail "=T",by fail "=T",by fail "=T",by fail "=T",by fail "=T",by fail "=T",by fail "=T",by fail "=T",by fail "=T",by fail "=T",by fail "=T",by fail "=T",by fail "=T",by fail "=T",by fail "=T",by fail "=T",by fail "=T",by fail "=T",by fail "=T",by fail "=T",by fail "=T",by fail "=T",by fail "=T",by fail "=T",by fail "=T",by fail "=T",by fail "=T",by fail "=T",by fail "=T",by fail "=T",by fail "=T",by fail "=T",by fail "=T",t_term_paper,by fail "=T",by fail "=N",by fail "=N",by fail "=N",by fail "=N",by fail "=N",by fail "=N",by fail "=N",by fail "=N",by fail "=N",by fail "=N",by fail "=N",by fail "=N",by fail "=N",by fail "=N",by fail "=N",c_TRUTHS,v_told_term⟩,Zwp t_term_paper rfl ?tn⟩
  (case tn=>kernel_rfl)
